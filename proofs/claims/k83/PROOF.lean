import PyProof.Rows.All
import Wide.All
import OpenK.AllK
import Wide.FinOn
import HandS.ForMost
import HandS.IsInst
import HandS.TupAny
import HandS.TupMul
import HandS.Codes
import HandS.Style
import HandS.Wide
import PyProof.StrBlock2
import KE.KDictKeyed
import KE.KDictDisplayH
import HandS.Dict
import HandS.WordsDict
import HandS.SetKeys
import HandS.TupLen
import HandS.Iter
import HandS.Text
import HandS.Walk
import HandS.DictComp
import HandS.Defaults
import HandS.Rev
import PyProof.EnumMake
import PyProof.Draws
import KE.GoesMore
import HandS.DictTup
import HandS.SortInts
import KE.KDictWalk
import KE.KItemsList
import HandS.SortRule
import HandS.NamedTupSort
import HandS.SetFor
import PyProof.SeqRoads2
import PyProof.Rows.StrRev
import KE.KRevSl
import HandS.ExcOwn
import HandS.WordsExc
import HandS.Exc
import HandS.ExcIs
import HandS.TryOnly
import HandS.TryMany
import HandS.ExcField
import KE.KExcSuper
import HandS.More
import HandS.Strs
import HandS.Conv
import HandS.Deep
import PySem.Challenge.RW_nodoubt_k83_whole_right_words_read
set_option Elab.async false
set_option maxRecDepth 100000
set_option linter.all false
namespace My
open PySem PySem.Spec PyProof.Rows L2
/-! ### a def of the text, and what a caller needs of it -/
structure Df (K : PySem.W.Frag) (mg : Str → Option Value) (x : Str) (st : Stmt) (ps : List Str) (f : Addr) (fd : FuncData) : Prop where
  F : Fun K x x st f fd
  b : Binds K fd ps []
  g : mg x = some (.ref f)
structure Cl (P : Program) (w : World) (K : PySem.W.Frag) (mg : Str → Option Value) (base : Heap) (k : Nat) (x : Str) (ps : List Str) (sp : Sp) : Prop where
  ex : ∃ (f : Addr) (fd : FuncData), FnOk P w K mg base CX0 k f fd ps sp ∧ Binds K fd ps [] ∧ mg x = some (.ref f) ∧ PySem.W.keepIn K (.ref f) = true
theorem Df.cl {P : Program} {w : World} {K : PySem.W.Frag} {mg : Str → Option Value} {base : Heap} {x : Str} {st : Stmt} {ps : List Str} {f : Addr} {fd : FuncData} {k : Nat} {sp : Sp} (D : Df K mg x st ps f fd) (h : FnOk P w K mg base CX0 k f fd ps sp) : Cl P w K mg base k x ps sp :=
  ⟨f, fd, h, D.b, D.g, D.F.kp⟩
theorem pe_cl {X : Cx} {k : Nat} {x : Str} {ps : List Str} {sp : Sp} {p pos : Pos} {e : Expr} {es : List Expr} {t : TA} (C : Cl X.prog X.w X.K X.mg X.base k x ps sp) (hr : Room k X.A) (hg : Gl X x) (ha : PA X (e :: es) t)
    (hdb : (x == ("__debug__" : Str)) = false := by decide) (he : starEach (e :: es) X.env = (false, eval e X.env) :: starEach es X.env := by rfl) (hpl : (backTo pos (starEach es X.env)).any (·.1) = false := by rfl) :
    PE X (.Call (.Name x p) (e :: es) [] pos) (tCall sp [] E0 t) := by
  obtain ⟨f, fd, F, b, m, kp⟩ := C.ex
  exact pe_call F hr hg m kp b .nil pass0 ha hdb he hpl
/-! ### lists of values -/
theorem vals_of : ∀ (vs : List V) (us : List Value), vs.length = us.length → (∀ (j : Nat) (v : V) (u : Value), vs[j]? = some v → us[j]? = some u → RelV v u) → Vals vs us
  | [], [], _, _ => .nil
  | [], _ :: _, h, _ => by cases h
  | _ :: _, [], h, _ => by cases h
  | v :: vs, u :: us, h, k => .cons (k 0 v u rfl rfl) (vals_of vs us (Nat.succ.inj h) fun j v' u' h1 h2 => k (j + 1) v' u' h1 h2)
/-! ### list(text) -/
def signsV (z : Str) : List V := z.cps.toList.map fun c => V.str ⟨#[c]⟩
theorem call_list_text {X : Cx} (hc : X.calm = true) : CallR X (.type "list") (fun xs H Q => ∃ z : Str, xs = [.str z] ∧ z.length ≤ sizeLine ∧ ∀ l, H l = none → Q (.ref l) (upd H l (.lst (signsV z)))) := by
  intro pins s σ H xs us Q I r h
  obtain ⟨z, rfl, hz, q⟩ := h
  obtain ⟨u, rfl, t, rfl⟩ := vals1 r
  have hz' : z.cps.size ≤ sizeLine := hz
  refine call_list_str (I.ok.hd hc) z t (hn := hz) fun h' tk acc' c' hk hS hacc => ?_
  have vals : Vals (signsV z) acc'.toList := by
    refine vals_of _ _ (by unfold signsV; simp [hacc.1]) fun j v u h1 h2 => ?_
    obtain ⟨c, t', hc', rfl⟩ := hacc.2 j u (by simpa using h2)
    unfold signsV at h1
    rw [List.getElem?_map] at h1
    rw [show z.cps.toList[j]? = some c by simpa using hc'] at h1
    cases h1
    exact ⟨_, rfl⟩
  exact ⟨.ref s.heap.objs.size, _, I.laid (t' := tk) hk (Nat.le_refl _) (show ObjOk X.prog X.w _ h' _ (.lst (signsV z)) from ⟨by unfold signsV; simpa using hz', acc'.toList, c', vals, by simpa using hS⟩), rfl, q _ (I.hok.fresh (Nat.le_refl _))⟩

/-- text * number -/
theorem op_mul_str {X : Cx} : OpR X (binaryOp .Mult) (fun x y H Q => ∃ z n, x = .str z ∧ y = .int n ∧ MulOk z n ∧ Q (.str (Txt.mul z n)) H) := by
  intro pins s σ H x y v u Q I rx ry h
  obtain ⟨z, n, rfl, rfl, hok, q⟩ := h
  obtain ⟨t, rfl⟩ := rx
  obtain ⟨t', rfl⟩ := ry
  exact SB.mul hok fun t' k => ⟨.str _, H, I.tok k, ⟨_, rfl⟩, q⟩
/-! ### heaps -/
theorem same_upd {H : Hp} {p : Addr} {o : HO} (h : H p = none) : Same H (upd H p o) := fun b u q => by rw [upd_ne (ne_of_none q h)]; exact q
/-- all but what stands at a is as it was -/
def Keep (a : Addr) (H H' : Hp) : Prop := ∀ b o, H b = some o → b ≠ a → H' b = some o
theorem Keep.refl (a : Addr) (H : Hp) : Keep a H H := fun _ _ h _ => h
theorem Keep.trans {a : Addr} {H H1 H2 : Hp} (x : Keep a H H1) (y : Keep a H1 H2) : Keep a H H2 := fun b o h n => y b o (x b o h n) n
theorem Keep.same {a : Addr} {H H' : Hp} (x : Same H H') : Keep a H H' := fun b o h _ => x b o h
theorem Keep.new {a p : Addr} {H : Hp} {o : HO} (h : H p = none) : Keep a H (upd H p o) := Keep.same (same_upd h)
theorem Keep.store {a : Addr} {H : Hp} {o : HO} : Keep a H (upd H a o) := fun b u q n => by rw [upd_ne n]; exact q
/-- tuples stay, lists stay lists -/
structure Pers (H H' : Hp) : Prop where
  tup : ∀ b xs, H b = some (.tup xs) → H' b = some (.tup xs)
  lst : ∀ b xs, H b = some (.lst xs) → ∃ ys, H' b = some (.lst ys)
theorem Pers.refl (H : Hp) : Pers H H := ⟨fun _ _ h => h, fun _ xs h => ⟨xs, h⟩⟩
theorem Pers.trans {H H1 H2 : Hp} (x : Pers H H1) (y : Pers H1 H2) : Pers H H2 := ⟨fun b xs h => y.tup b xs (x.tup b xs h), fun b xs h => by
  obtain ⟨ys, h1⟩ := x.lst b xs h
  exact y.lst b ys h1⟩
theorem Pers.same {H H' : Hp} (x : Same H H') : Pers H H' := ⟨fun b xs h => x b _ h, fun b xs h => ⟨xs, x b _ h⟩⟩
theorem Pers.new {p : Addr} {H : Hp} {o : HO} (h : H p = none) : Pers H (upd H p o) := Pers.same (same_upd h)
theorem Pers.store {a : Addr} {H : Hp} {xs ys : List V} (h : H a = some (.lst xs)) : Pers H (upd H a (.lst ys)) := ⟨fun b zs q => by
  have n : b ≠ a := fun e => by
    rw [e, h] at q
    cases q
  rw [upd_ne n]
  exact q, fun b zs q => by
  by_cases n : b = a
  · subst n
    exact ⟨ys, upd_same⟩
  · rw [upd_ne n]
    exact ⟨zs, q⟩⟩
/-! ### the stream of draws -/
def StrmW (H : Hp) (a l : Addr) (c k : Int) (ns : List Int) : Prop := H a = some (.lst [.ref l, .int c, .int k]) ∧ H l = some (.lst (ns.map V.int)) ∧ l ≠ a ∧ 0 ≤ k
def Strm (H : Hp) (a : Addr) : Prop := ∃ l c k ns, StrmW H a l c k ns
/-- what a call that draws leaves: all but the stream as it was -/
structure Go (a : Addr) (H H' : Hp) : Prop where
  keep : Keep a H H'
  st0 : Strm H a
  mv : ∀ l c k ns, StrmW H a l c k ns → ∃ c' k' ns', StrmW H' a l c' k' ns'
theorem Go.st {a : Addr} {H H' : Hp} (g : Go a H H') : Strm H' a := by
  obtain ⟨l, c, k, ns, h⟩ := g.st0
  obtain ⟨c', k', ns', h'⟩ := g.mv l c k ns h
  exact ⟨l, c', k', ns', h'⟩
theorem Go.refl {a : Addr} {H : Hp} (h : Strm H a) : Go a H H := ⟨Keep.refl a H, h, fun l c k ns h => ⟨c, k, ns, h⟩⟩
theorem Go.trans {a : Addr} {H H1 H2 : Hp} (x : Go a H H1) (y : Go a H1 H2) : Go a H H2 := ⟨x.keep.trans y.keep, x.st0, fun l c k ns h => by
  obtain ⟨c', k', ns', h'⟩ := x.mv l c k ns h
  exact y.mv l c' k' ns' h'⟩
theorem StrmW.same {a l : Addr} {c k : Int} {ns : List Int} {H H' : Hp} (h : StrmW H a l c k ns) (s : Same H H') : StrmW H' a l c k ns := ⟨s _ _ h.1, s _ _ h.2.1, h.2.2.1, h.2.2.2⟩
theorem Strm.same {a : Addr} {H H' : Hp} (h : Strm H a) (s : Same H H') : Strm H' a := by
  obtain ⟨l, c, k, ns, h⟩ := h
  exact ⟨l, c, k, ns, h.same s⟩
theorem Go.same {a : Addr} {H H' : Hp} (h : Strm H a) (s : Same H H') : Go a H H' := ⟨Keep.same s, h, fun l c k ns w => ⟨c, k, ns, w.same s⟩⟩
theorem Go.new {a p : Addr} {H : Hp} {o : HO} (h : Strm H a) (n : H p = none) : Go a H (upd H p o) := Go.same h (same_upd n)
/-- a store to what is new since H -/
theorem Go.loc {a p : Addr} {H H' : Hp} {o : HO} (g : Go a H H') (n : H p = none) : Go a H (upd H' p o) := ⟨fun b u hb hn => by
  rw [upd_ne (ne_of_none hb n)]
  exact g.keep b u hb hn, g.st0, fun l c k ns h => by
  obtain ⟨c', k', ns', h1, h2, h3, h4⟩ := g.mv l c k ns h
  exact ⟨c', k', ns', by rw [upd_ne (ne_of_none h.1 n)]; exact h1, by rw [upd_ne (ne_of_none h.2.1 n)]; exact h2, h3, h4⟩⟩
theorem Strm.isl {a : Addr} {H : Hp} (h : Strm H a) : ∃ xs, H a = some (.lst xs) := by
  obtain ⟨l, c, k, ns, h1, h2⟩ := h
  exact ⟨_, h1⟩
theorem Go.pers {a : Addr} {H H' : Hp} (g : Go a H H') : Pers H H' := by
  obtain ⟨xs, h1⟩ := g.st0.isl
  obtain ⟨ys, h2⟩ := g.st.isl
  refine ⟨fun b zs q => g.keep b _ q fun e => ?_, fun b zs q => ?_⟩
  · rw [e, h1] at q
    cases q
  · by_cases n : b = a
    · subst n
      exact ⟨ys, h2⟩
    · exact ⟨zs, g.keep b _ q n⟩
theorem Strm.ne {a p : Addr} {H : Hp} (h : Strm H a) (n : H p = none) : a ≠ p := by
  obtain ⟨xs, h1⟩ := h.isl
  exact ne_of_none h1 n
theorem Strm.neT {a p : Addr} {H : Hp} {xs : List V} (h : Strm H a) (n : H p = some (.tup xs)) : p ≠ a := fun e => by
  obtain ⟨ys, h1⟩ := h.isl
  rw [e, h1] at n
  cases n
/-! ### two lists, item by item -/
inductive Two {α β : Type} (R : α → β → Prop) : List α → List β → Prop where
  | nil : Two R [] []
  | cons {a : α} {b : β} {as : List α} {bs : List β} (h : R a b) (t : Two R as bs) : Two R (a :: as) (b :: bs)
theorem Two.len {α β : Type} {R : α → β → Prop} {as : List α} {bs : List β} (h : Two R as bs) : as.length = bs.length := by
  induction h with
  | nil => rfl
  | cons _ _ ih => rw [List.length_cons, List.length_cons, ih]
theorem Two.mono {α β : Type} {R S : α → β → Prop} (k : ∀ a b, R a b → S a b) {as : List α} {bs : List β} (h : Two R as bs) : Two S as bs := by
  induction h with
  | nil => exact .nil
  | cons h _ ih => exact .cons (k _ _ h) ih
theorem Two.monoM {α β : Type} {R S : α → β → Prop} {as : List α} {bs : List β} (h : Two R as bs) (k : ∀ a b, a ∈ as → b ∈ bs → R a b → S a b) : Two S as bs := by
  induction h with
  | nil => exact .nil
  | cons h _ ih => exact .cons (k _ _ (List.mem_cons_self ..) (List.mem_cons_self ..) h) (ih fun a b ha hb => k a b (List.mem_cons_of_mem _ ha) (List.mem_cons_of_mem _ hb))
theorem Two.app {α β : Type} {R : α → β → Prop} {as as' : List α} {bs bs' : List β} (h : Two R as bs) (h' : Two R as' bs') : Two R (as ++ as') (bs ++ bs') := by
  induction h with
  | nil => exact h'
  | cons h _ ih => exact .cons h ih
theorem Two.get {α β : Type} {R : α → β → Prop} {as : List α} {bs : List β} (h : Two R as bs) : ∀ {i : Nat} {a : α}, as[i]? = some a → ∃ b, bs[i]? = some b ∧ R a b := by
  induction h with
  | nil => intro i a h; simp at h
  | cons h _ ih =>
    intro i a e
    cases i with
    | zero => cases e; exact ⟨_, rfl, h⟩
    | succ i => exact ih e
theorem Two.get2 {α β : Type} {R : α → β → Prop} {as : List α} {bs : List β} (h : Two R as bs) {i : Nat} {a : α} {b : β} (ha : as[i]? = some a) (hb : bs[i]? = some b) : R a b := by
  obtain ⟨b', h1, h2⟩ := h.get ha
  rw [h1] at hb
  cases hb
  exact h2
theorem Two.of_get {α β : Type} {R : α → β → Prop} : ∀ {as : List α} {bs : List β}, as.length = bs.length → (∀ (i : Nat) (a : α) (b : β), as[i]? = some a → bs[i]? = some b → R a b) → Two R as bs
  | [], [], _, _ => .nil
  | [], _ :: _, h, _ => by cases h
  | _ :: _, [], h, _ => by cases h
  | a :: as, b :: bs, h, k => .cons (k 0 a b rfl rfl) (Two.of_get (Nat.succ.inj h) fun i a' b' h1 h2 => k (i + 1) a' b' h1 h2)
theorem Two.unsnoc {α β : Type} {R : α → β → Prop} {as : List α} {bs : List β} {b : β} (h : Two R as (bs ++ [b])) : ∃ as' a, as = as' ++ [a] ∧ Two R as' bs ∧ R a b := by
  induction bs generalizing as with
  | nil =>
    cases h with
    | cons h t =>
      cases t
      exact ⟨[], _, rfl, .nil, h⟩
  | cons c bs ih =>
    cases h with
    | cons h t =>
      obtain ⟨as', a, rfl, h1, h2⟩ := ih t
      exact ⟨_ :: as', a, rfl, .cons h h1, h2⟩
theorem Two.map_right {α β γ : Type} {R : α → γ → Prop} {f : β → γ} {as : List α} {bs : List β} (h : Two (fun a b => R a (f b)) as bs) : Two R as (bs.map f) := by
  induction h with
  | nil => exact .nil
  | cons h _ ih => exact .cons h ih
/-! ### data: what stands at a value -/
inductive D where
  | str (z : Str)
  | tup (ds : List D)
  | lst
  | flat
inductive Rep (H : Hp) : V → D → Prop where
  | str {z : Str} (h : z.length ≤ 1000) : Rep H (.str z) (.str z)
  | tup {p : Addr} {xs : List V} {ds : List D} (h : H p = some (.tup xs)) (z : xs.length ≤ 100000) (l : xs.length = ds.length) (k : ∀ (i : Nat) (x : V) (d : D), xs[i]? = some x → ds[i]? = some d → Rep H x d) : Rep H (.ref p) (.tup ds)
  | lst {p : Addr} {xs : List V} (h : H p = some (.lst xs)) : Rep H (.ref p) .lst
  | non : Rep H .non .flat
  | bl (b : Bool) : Rep H (.bl b) .flat
  | int (i : Int) : Rep H (.int i) .flat
theorem Rep.tup2 {H : Hp} {p : Addr} {xs : List V} {ds : List D} (h : H p = some (.tup xs)) (z : xs.length ≤ 100000) (k : Two (Rep H) xs ds) : Rep H (.ref p) (.tup ds) := .tup h z k.len fun _ _ _ h1 h2 => k.get2 h1 h2
theorem Rep.pers {H H' : Hp} (k : Pers H H') {v : V} {d : D} (h : Rep H v d) : Rep H' v d := by
  induction h with
  | str h => exact .str h
  | tup h z l _ ih => exact .tup (k.tup _ _ h) z l ih
  | lst h =>
    obtain ⟨ys, h1⟩ := k.lst _ _ h
    exact .lst h1
  | non => exact .non
  | bl b => exact .bl b
  | int i => exact .int i
theorem Rep.pers2 {H H' : Hp} (k : Pers H H') {vs : List V} {ds : List D} (h : Two (Rep H) vs ds) : Two (Rep H') vs ds := h.mono fun _ _ => Rep.pers k
theorem Rep.untup {H : Hp} {v : V} {ds : List D} (h : Rep H v (.tup ds)) : ∃ p xs, v = .ref p ∧ H p = some (.tup xs) ∧ xs.length ≤ 100000 ∧ Two (Rep H) xs ds := by
  cases h with
  | tup h z l k => exact ⟨_, _, rfl, h, z, Two.of_get l k⟩
def isStr : D → Bool | .str _ => true | _ => false
def isTup : D → Bool | .tup _ => true | _ => false
/-- its type, for isinstance -/
theorem Rep.ty {K : PySem.W.Frag} {H : Hp} {v : V} {d : D} (h : Rep H v d) : ∃ t : String, TyX K H v (.type t) ∧ PySem.W.kitOne K (.type t) (.type "str") = some (isStr d) ∧ PySem.W.kitOne K (.type t) (.type "tuple") = some (isTup d) := by
  cases h with
  | str h => exact ⟨"str", .base (.str _), kit_ty (r := true) (by decide +kernel), kit_ty (r := false) (by decide +kernel)⟩
  | tup h _ _ _ => exact ⟨"tuple", .base (.tup h), kit_ty (r := false) (by decide +kernel), kit_ty (r := true) (by decide +kernel)⟩
  | lst h => exact ⟨"list", .base (.lst h), kit_ty (r := false) (by decide +kernel), kit_ty (r := false) (by decide +kernel)⟩
  | non => exact ⟨"NoneType", .base .non, kit_ty (r := false) (by decide +kernel), kit_ty (r := false) (by decide +kernel)⟩
  | bl b => exact ⟨"bool", .base (.bl _), kit_ty (r := false) (by decide +kernel), kit_ty (r := false) (by decide +kernel)⟩
  | int i => exact ⟨"int", .base (.int _), kit_ty (r := false) (by decide +kernel), kit_ty (r := false) (by decide +kernel)⟩
/-! ### short words for readings -/
theorem vstr {a b : Str} (h : decide (V.str a = V.str b) = true) : a = b := by
  have e := of_decide_eq_true h
  cases e
  rfl
theorem vstrN {a b : Str} (h : ¬ decide (V.str a = V.str b) = true) : ¬ a = b := fun e => h (decide_eq_true (congrArg V.str e))
theorem tyes {σ : L2.St} {H : Hp} {A B : Hp → Prop} (h : A H) : tYes σ H (fun b H3 => if b = true then A H3 else B H3) := by
  show (if true = true then A H else B H)
  rw [if_pos rfl]
  exact h
theorem at_zero {x : V} {xs : List V} : atI (x :: xs) 0 = some x := at_of (j := 0) rfl rfl
theorem at_one {x y : V} {xs : List V} : atI (x :: y :: xs) 1 = some y := at_of (j := 1) rfl rfl
theorem or2 {a b : Prop} {A B : Prop} [Decidable a] [Decidable b] (h1 : a ∨ b → A) (h2 : ¬ (a ∨ b) → B) : if a then A else if b then A else B := by
  by_cases c : a
  · rw [if_pos c]
    exact h1 (.inl c)
  · rw [if_neg c]
    by_cases d : b
    · rw [if_pos d]
      exact h1 (.inr d)
    · rw [if_neg d]
      exact h2 fun z => z.elim c d
theorem lc_str {z : Str} {g : TG} {tt : TT} {te : TE} {vs : List Nat} {σ : L2.St} {H1 : Hp} {D : Addr} {Qd : Hp → Prop} (Pv : Nat → Hp → Prop) (h0 : Pv 0 (upd H1 D (.lst [])))
    (hs : ∀ i c H, z.cps[i]? = some c → Pv i H → g (.str ⟨#[c]⟩) (wipe σ vs) H fun σ2 H2 => wipe σ2 vs = wipe σ vs ∧ tt σ2 H2 fun b H3 =>
      if b = true then te σ2 H3 fun y H4 => ∃ acc, H4 D = some (.lst acc) ∧ acc.length < sizeLine ∧ Pv (i + 1) (upd H4 D (.lst (acc ++ [y]))) else Pv (i + 1) H3) (hd : ∀ H, Pv z.cps.size H → Qd H) :
    ∃ W : Nat → Nat → Hp → Prop, (∃ m, W 0 m (upd H1 D (.lst []))) ∧ ∀ i m H, W i m H →
      ((Its z).stop i H ∧ Qd H) ∨ ((Its z).go i H ∧ ∃ Nx : Hp → Prop, (∀ H', Nx H' → ∃ m', m' < m ∧ W (i + 1) m' H') ∧ ∀ x H', (Its z).yld i H x H' → g x (wipe σ vs) H' fun σ2 H2 => wipe σ2 vs = wipe σ vs ∧ tt σ2 H2 fun b H3 =>
        if b = true then te σ2 H3 fun y H4 => ∃ acc, H4 D = some (.lst acc) ∧ acc.length < sizeLine ∧ Nx (upd H4 D (.lst (acc ++ [y]))) else Nx H3) := by
  refine ⟨fun i m H => m = z.cps.size - i ∧ i ≤ z.cps.size ∧ Pv i H, ⟨z.cps.size, by simp, Nat.zero_le _, h0⟩, ?_⟩
  rintro i m H ⟨rfl, hi, p⟩
  by_cases hlt : i < z.cps.size
  · refine .inr ⟨hlt, Pv (i + 1), fun H' p' => ⟨z.cps.size - (i + 1), by omega, rfl, hlt, p'⟩, fun x H' y => ?_⟩
    obtain ⟨rfl, c, hc, rfl⟩ := y
    exact hs i c _ hc p
  · have e : i = z.cps.size := by omega
    subst e
    exact .inl ⟨Nat.le_refl _, hd H p⟩
/-! ### plain data, for the law's own comparison -/
inductive J where
  | non
  | bl (b : Bool)
  | int (i : Int)
  | str (z : Str)
  | tup (js : List J)
  | lst (js : List J)
inductive RepJ (H : Hp) : V → J → Nat → Prop where
  | non {n : Nat} : RepJ H .non .non n
  | bl {n : Nat} (b : Bool) : RepJ H (.bl b) (.bl b) n
  | int {n : Nat} (i : Int) : RepJ H (.int i) (.int i) n
  | str {n : Nat} (z : Str) : RepJ H (.str z) (.str z) n
  | tup {n : Nat} {p : Addr} {xs : List V} {js : List J} (h : H p = some (.tup xs)) (z : xs.length ≤ 100000) (l : xs.length = js.length) (k : ∀ (i : Nat) (x : V) (j : J), xs[i]? = some x → js[i]? = some j → RepJ H x j n) : RepJ H (.ref p) (.tup js) (n + 1)
  | lst {n : Nat} {p : Addr} {xs : List V} {js : List J} (h : H p = some (.lst xs)) (z : xs.length ≤ 100000) (l : xs.length = js.length) (k : ∀ (i : Nat) (x : V) (j : J), xs[i]? = some x → js[i]? = some j → RepJ H x j n) : RepJ H (.ref p) (.lst js) (n + 1)
theorem RepJ.same {H H' : Hp} (s : Same H H') {v : V} {j : J} {n : Nat} (h : RepJ H v j n) : RepJ H' v j n := by
  induction h with
  | non => exact .non
  | bl b => exact .bl b
  | int i => exact .int i
  | str z => exact .str z
  | tup h z l _ ih => exact .tup (s _ _ h) z l ih
  | lst h z l _ ih => exact .lst (s _ _ h) z l ih
/-! ### the promises of the draws -/
def spStream (K : PySem.W.Frag) : Sp := fun vs H Q _ => ∃ (s : Addr) (ns : List Int), vs = [.ref s] ∧ SqL K H s (ns.map V.int) ∧ ns.length ≤ 63 ∧ ∀ a H', Same H H' → H a = none → Strm H' a → Q (.ref a) H'
def spNext : Sp := fun vs H Q _ => ∃ (a : Addr) (m : Int), vs = [.ref a, .int m] ∧ Strm H a ∧ 0 < m ∧ m < 2000000 ∧ ∀ d H', 0 ≤ d → d < m → Go a H H' → Q (.int d) H'
def spPick (K : PySem.W.Frag) : Sp := fun vs H Q _ => ∃ (a r : Addr) (xs : List V), vs = [.ref a, .ref r] ∧ Strm H a ∧ SqL K H r xs ∧ r ≠ a ∧ 0 < xs.length ∧ xs.length < 1000 ∧ ∀ v H', v ∈ xs → Go a H H' → Q v H'
theorem Go.seq {K : PySem.W.Frag} {a r : Addr} {H H' : Hp} {xs : List V} (g : Go a H H') (n : r ≠ a) (h : SqL K H r xs) : SqL K H' r xs := by
  rcases h with (h | ⟨o, h⟩) | h
  · exact .inl (.inl (g.keep _ _ h n))
  · exact .inl (.inr ⟨o, g.keep _ _ h n⟩)
  · exact .inr h
end My
namespace My
open PySem PySem.Spec PyProof.Rows L2
def natsV (xs : List Nat) : List V := xs.map fun (i : Nat) => V.int (i : Int)
end My
namespace My
open PySem PySem.Spec PyProof.Rows L2
/-! ### letters and words -/
def isLet (z : Str) : Bool := match z.cps.toList with | [c] => decide (97 ≤ c) && decide (c ≤ 100) | _ => false
abbrev sJoin : Str := "join"
abbrev sOr : Str := "or"
abbrev sMaybe : Str := "maybe"
abbrev sMany : Str := "many"
abbrev sNo : Str := ""
theorem jo : ¬ sJoin = sOr := by decide +kernel
theorem jm : ¬ sJoin = sMaybe := by decide +kernel
theorem jn : ¬ sJoin = sMany := by decide +kernel
theorem je : ¬ sJoin = sNo := by decide +kernel
theorem om : ¬ sOr = sMaybe := by decide +kernel
theorem on : ¬ sOr = sMany := by decide +kernel
theorem oe : ¬ sOr = sNo := by decide +kernel
theorem mn : ¬ sMaybe = sMany := by decide +kernel
theorem lJ : sJoin.length = 4 := by decide +kernel
theorem lO : sOr.length = 2 := by decide +kernel
theorem lM : sMaybe.length = 5 := by decide +kernel
theorem lN : sMany.length = 4 := by decide +kernel
theorem lE : sNo.length = 0 := by decide +kernel
/-! ### the parts directly in a datum -/
def begins (w : Str) : D → Bool
  | .tup (.str x :: _) => decide (x = w)
  | _ => false
def rowOk (w : Str) : D → Bool
  | .tup ys => decide (2 ≤ ys.length) && !(ys.any (begins w))
  | _ => false
def rowItems : D → Option (List D)
  | .tup ys => some ys
  | _ => none
def innerPair (w : Str) (y : D) : Option (List D) := if w = sMaybe ∨ w = sMany then some [y] else if (w = sJoin ∨ w = sOr) ∧ rowOk w y = true then rowItems y else none
def inner : D → Option (List D)
  | .str z => if z = sNo ∨ isLet z = true then some [] else none
  | .tup [.str w, y] => innerPair w y
  | _ => none
theorem inner_pair (w : Str) (y : D) : inner (.tup [.str w, y]) = innerPair w y := rfl
/-- a part of a row does not begin with an object -/
def notObj : D → Bool
  | .tup _ => false
  | .lst => false
  | _ => true
def headFlat : D → Bool
  | .tup (x :: _) => notObj x
  | _ => true
def rowFlat : D → Bool
  | .tup ys => ys.all headFlat
  | _ => true
/-- what the looks at a datum ask: items of a row of parts begin flat -/
inductive Fl : D → Prop where
  | str (z : Str) : Fl (.str z)
  | tup {ds : List D} (h : ∀ w y, ds = [.str w, y] → w = sJoin ∨ w = sOr → rowFlat y = true) (k : ∀ d ∈ ds, Fl d) : Fl (.tup ds)
  | lst : Fl .lst
  | flat : Fl .flat
/-! ### sizes, for the loop's measure -/
def D.size : D → Nat
  | .str _ => 1
  | .tup ds => 1 + sizes ds
  | .lst => 1
  | .flat => 1
where sizes : List D → Nat
  | [] => 0
  | d :: ds => d.size + sizes ds
def places1 : D → Nat
  | .str z => z.length
  | _ => 0
abbrev Bnd := Nat × Nat × Nat
def within (b a : Bnd) : Bool := decide (a.1 ≤ b.1) && decide (a.2.1 ≤ b.2.1) && decide (a.2.2 ≤ b.2.2)
/-- the loop: n turns at most; the stack's last is looked at first -/
def look (b : Bnd) : Nat → List (D × Nat) → Bnd → Option Bnd
  | 0, _, _ => none
  | _ + 1, [], a => some a
  | n + 1, (d, k) :: st, a => match inner d with
    | none => none
    | some ys =>
      if within b (a.1 + places1 d, max a.2.1 k, a.2.2 + ys.length) = true then look b n ((ys.map fun y => (y, k + 1)).reverse ++ st) (a.1 + places1 d, max a.2.1 k, a.2.2 + ys.length) else none
def msr (st : List (D × Nat)) : Nat := (st.map fun p => p.1.size).sum
theorem sizes_eq (ds : List D) : D.size.sizes ds = (ds.map D.size).sum := by
  induction ds with
  | nil => rfl
  | cons d ds ih => rw [D.size.sizes, ih, List.map_cons, List.sum_cons]
theorem size_pos (d : D) : 0 < d.size := by
  cases d <;> (unfold D.size; omega)
theorem inner_size {d : D} {ys : List D} (h : inner d = some ys) : (ys.map D.size).sum < d.size := by
  unfold inner at h
  split at h
  · split at h
    · cases h
      exact size_pos _
    · cases h
  · rename_i w y
    unfold innerPair at h
    split at h
    · cases h
      simp only [D.size, D.size.sizes, List.map_cons, List.map_nil, List.sum_cons, List.sum_nil]
      omega
    · split at h
      · cases y with
        | tup zs =>
          cases h
          simp only [D.size, D.size.sizes, sizes_eq]
          omega
        | str z => cases h
        | lst => cases h
        | flat => cases h
      · cases h
  · cases h
theorem msr_step {d : D} {k : Nat} {st : List (D × Nat)} {ys : List D} (h : inner d = some ys) : msr ((ys.map fun y => (y, k + 1)).reverse ++ st) < msr ((d, k) :: st) := by
  unfold msr
  rw [List.map_append, List.sum_append, List.map_reverse, List.sum_reverse, List.map_map, List.map_cons, List.sum_cons]
  have e : ((fun p : D × Nat => p.1.size) ∘ fun y => (y, k + 1)) = D.size := rfl
  rw [e]
  have := inner_size h
  show _ < d.size + _
  omega

/-! ### expressions -/
inductive E where
  | eps
  | sym (c : Nat)
  | maybe (e : E)
  | many (e : E)
  | join (es : List E)
  | alt (es : List E)
def E.toD : E → D
  | .eps => .str sNo
  | .sym c => .str ⟨#[c]⟩
  | .maybe e => .tup [.str sMaybe, e.toD]
  | .many e => .tup [.str sMany, e.toD]
  | .join es => .tup [.str sJoin, .tup (toDs es)]
  | .alt es => .tup [.str sOr, .tup (toDs es)]
where toDs : List E → List D
  | [] => []
  | e :: es => e.toD :: toDs es
theorem toDs_eq (es : List E) : E.toD.toDs es = es.map E.toD := by
  induction es with
  | nil => rfl
  | cons e es ih => rw [E.toD.toDs, ih, List.map_cons]
def isJoin : E → Bool | .join _ => true | _ => false
def isAlt : E → Bool | .alt _ => true | _ => false
def E.ok : E → Bool
  | .eps => true
  | .sym c => decide (97 ≤ c) && decide (c ≤ 100)
  | .maybe e => e.ok
  | .many e => e.ok
  | .join es => decide (2 ≤ es.length) && oks es && !(es.any isJoin)
  | .alt es => decide (2 ≤ es.length) && oks es && !(es.any isAlt)
where oks : List E → Bool
  | [] => true
  | e :: es => e.ok && oks es
theorem oks_eq (es : List E) : E.ok.oks es = es.all E.ok := by
  induction es with
  | nil => rfl
  | cons e es ih => rw [E.ok.oks, ih, List.all_cons]
def E.places : E → Nat
  | .eps => 0
  | .sym _ => 1
  | .maybe e => e.places
  | .many e => e.places
  | .join es => placess es
  | .alt es => placess es
where placess : List E → Nat
  | [] => 0
  | e :: es => e.places + placess es
def E.depth : E → Nat
  | .eps => 0
  | .sym _ => 0
  | .maybe e => e.depth + 1
  | .many e => e.depth + 1
  | .join es => depths es + 1
  | .alt es => depths es + 1
where depths : List E → Nat
  | [] => 0
  | e :: es => max e.depth (depths es)
def E.parts : E → Nat
  | .eps => 1
  | .sym _ => 1
  | .maybe e => e.parts + 1
  | .many e => e.parts + 1
  | .join es => partss es + 1
  | .alt es => partss es + 1
where partss : List E → Nat
  | [] => 0
  | e :: es => e.parts + partss es
theorem placess_eq (es : List E) : E.places.placess es = (es.map E.places).sum := by
  induction es with
  | nil => rfl
  | cons e es ih => rw [E.places.placess, ih, List.map_cons, List.sum_cons]
theorem partss_eq (es : List E) : E.parts.partss es = (es.map E.parts).sum := by
  induction es with
  | nil => rfl
  | cons e es ih => rw [E.parts.partss, ih, List.map_cons, List.sum_cons]
theorem depths_le {es : List E} {n : Nat} (h : ∀ e ∈ es, e.depth ≤ n) : E.depth.depths es ≤ n := by
  induction es with
  | nil => exact Nat.zero_le _
  | cons e es ih =>
    rw [E.depth.depths]
    exact Nat.max_le.mpr ⟨h e (List.mem_cons_self ..), ih fun x hx => h x (List.mem_cons_of_mem _ hx)⟩
/-- the expressions directly in one -/
def E.kids : E → List E
  | .eps => []
  | .sym _ => []
  | .maybe e => [e]
  | .many e => [e]
  | .join es => es
  | .alt es => es
def E.own : E → Nat
  | .sym _ => 1
  | _ => 0
theorem parts_kids (e : E) : e.parts = (e.kids.map E.parts).sum + 1 := by
  cases e <;> simp [E.parts, E.kids, partss_eq]
theorem places_kids (e : E) : e.places = e.own + (e.kids.map E.places).sum := by
  cases e <;> simp [E.places, E.kids, E.own, placess_eq]
theorem ok_kids {e : E} (h : e.ok = true) : ∀ k ∈ e.kids, k.ok = true := by
  intro k hk
  cases e with
  | eps => cases hk
  | sym c => cases hk
  | maybe e => rw [E.kids, List.mem_singleton] at hk; subst hk; rw [E.ok] at h; exact h
  | many e => rw [E.kids, List.mem_singleton] at hk; subst hk; rw [E.ok] at h; exact h
  | join es =>
    rw [E.ok, oks_eq] at h
    simp only [Bool.and_eq_true, List.all_eq_true] at h
    exact h.1.2 k hk
  | alt es =>
    rw [E.ok, oks_eq] at h
    simp only [Bool.and_eq_true, List.all_eq_true] at h
    exact h.1.2 k hk
theorem begins_tup (w x : Str) (ys : List D) : begins w (.tup (.str x :: ys)) = decide (x = w) := rfl
theorem begins_join (e : E) : begins sJoin e.toD = isJoin e := by
  cases e with
  | eps => rfl
  | sym c => rfl
  | maybe e => rw [E.toD, begins_tup]; exact decide_eq_false (fun h => jm h.symm)
  | many e => rw [E.toD, begins_tup]; exact decide_eq_false (fun h => jn h.symm)
  | join es => rw [E.toD, begins_tup]; exact decide_eq_true rfl
  | alt es => rw [E.toD, begins_tup]; exact decide_eq_false (fun h => jo h.symm)
theorem begins_or (e : E) : begins sOr e.toD = isAlt e := by
  cases e with
  | eps => rfl
  | sym c => rfl
  | maybe e => rw [E.toD, begins_tup]; exact decide_eq_false (fun h => om h.symm)
  | many e => rw [E.toD, begins_tup]; exact decide_eq_false (fun h => on h.symm)
  | join es => rw [E.toD, begins_tup]; exact decide_eq_false (fun h => jo h)
  | alt es => rw [E.toD, begins_tup]; exact decide_eq_true rfl
theorem rowOk_tup (w : Str) (ys : List D) : rowOk w (.tup ys) = (decide (2 ≤ ys.length) && !(ys.any (begins w))) := rfl
theorem inner_toD {e : E} (h : e.ok = true) : inner e.toD = some (e.kids.map E.toD) := by
  cases e with
  | eps => rw [E.toD, inner, if_pos (.inl rfl)]; rfl
  | sym c =>
    have q : isLet ⟨#[c]⟩ = true := by
      rw [E.ok] at h
      exact h
    rw [E.toD, inner, if_pos (.inr q)]; rfl
  | maybe e => rw [E.toD, inner_pair, innerPair, if_pos (.inl rfl)]; rfl
  | many e => rw [E.toD, inner_pair, innerPair, if_pos (.inr rfl)]; rfl
  | join es =>
    rw [E.ok, oks_eq] at h
    simp only [Bool.and_eq_true, decide_eq_true_eq] at h
    have r : rowOk sJoin (.tup (E.toD.toDs es)) = true := by
      rw [rowOk_tup, toDs_eq, List.length_map, List.any_map]
      have z : (begins sJoin ∘ E.toD) = isJoin := funext begins_join
      rw [z, h.2, Bool.and_true]
      exact decide_eq_true h.1.1
    rw [E.toD, inner_pair, innerPair, if_neg (fun z => z.elim jm jn), if_pos ⟨.inl rfl, r⟩, toDs_eq]; rfl
  | alt es =>
    rw [E.ok, oks_eq] at h
    simp only [Bool.and_eq_true, decide_eq_true_eq] at h
    have r : rowOk sOr (.tup (E.toD.toDs es)) = true := by
      rw [rowOk_tup, toDs_eq, List.length_map, List.any_map]
      have z : (begins sOr ∘ E.toD) = isAlt := funext begins_or
      rw [z, h.2, Bool.and_true]
      exact decide_eq_true h.1.1
    rw [E.toD, inner_pair, innerPair, if_neg (fun z => z.elim om on), if_pos ⟨.inr rfl, r⟩, toDs_eq]; rfl
theorem places1_toD (e : E) : places1 e.toD = e.own := by
  cases e <;> rw [E.toD] <;> first | rfl | exact lE
theorem depth_kids (e : E) : ∀ k ∈ e.kids, k.depth + 1 ≤ e.depth := by
  have a : ∀ (es : List E), ∀ k ∈ es, k.depth ≤ E.depth.depths es := by
    intro es
    induction es with
    | nil => intro k h; cases h
    | cons e es ih =>
      intro k h
      rw [E.depth.depths]
      rcases List.mem_cons.mp h with rfl | h
      · exact Nat.le_max_left _ _
      · exact Nat.le_trans (ih k h) (Nat.le_max_right _ _)
  intro k hk
  cases e with
  | eps => cases hk
  | sym c => cases hk
  | maybe e => rw [E.kids, List.mem_singleton] at hk; subst hk; rw [E.depth]; omega
  | many e => rw [E.kids, List.mem_singleton] at hk; subst hk; rw [E.depth]; omega
  | join es => have := a es k hk; rw [E.depth]; omega
  | alt es => have := a es k hk; rw [E.depth]; omega
theorem depth_by {e : E} {n : Nat} (h : ∀ k ∈ e.kids, k.depth + 1 ≤ n) : e.depth ≤ n ∨ (e.kids = [] ∧ e.depth = 0) ∨ e.depth = 1 := by
  cases e with
  | eps => exact .inr (.inl ⟨rfl, rfl⟩)
  | sym c => exact .inr (.inl ⟨rfl, rfl⟩)
  | maybe e => exact .inl (h e (List.mem_singleton.mpr rfl))
  | many e => exact .inl (h e (List.mem_singleton.mpr rfl))
  | join es =>
    cases es with
    | nil => exact .inr (.inr rfl)
    | cons x r =>
      refine .inl ?_
      rw [E.depth]
      cases n with
      | zero => have := h x (List.mem_cons_self ..); omega
      | succ n => exact Nat.succ_le_succ (depths_le fun k hk => Nat.le_of_succ_le_succ (h k hk))
  | alt es =>
    cases es with
    | nil => exact .inr (.inr rfl)
    | cons x r =>
      refine .inl ?_
      rw [E.depth]
      cases n with
      | zero => have := h x (List.mem_cons_self ..); omega
      | succ n => exact Nat.succ_le_succ (depths_le fun k hk => Nat.le_of_succ_le_succ (h k hk))
/-! ### what the look gives -/
abbrev Stk := List (E × Nat)
def sD (st : Stk) : List (D × Nat) := st.map fun p => (p.1.toD, p.2)
/-- the greatest depth on the stack, from m on -/
def deepE (st : Stk) (m : Nat) : Nat := st.foldr (fun p m => max (p.2 + p.1.depth) m) m
def totE (st : Stk) (a : Bnd) : Bnd := (a.1 + (st.map fun p => p.1.places).sum, deepE st a.2.1, a.2.2 + (st.map fun p => p.1.parts - 1).sum)
theorem deepE_app (s t : Stk) (m : Nat) : deepE (s ++ t) m = deepE s (deepE t m) := by
  unfold deepE
  rw [List.foldr_append]
theorem deepE_max (s : Stk) (m : Nat) : m ≤ deepE s m := by
  induction s with
  | nil => exact Nat.le_refl _
  | cons p s ih => exact Nat.le_trans ih (Nat.le_max_right _ _)
theorem deepE_le {s : Stk} {m n : Nat} : deepE s m ≤ n ↔ m ≤ n ∧ ∀ p ∈ s, p.2 + p.1.depth ≤ n := by
  induction s with
  | nil => exact ⟨fun h => ⟨h, fun p hp => by cases hp⟩, fun h => h.1⟩
  | cons p s ih =>
    show max (p.2 + p.1.depth) (deepE s m) ≤ n ↔ _
    rw [Nat.max_le, ih]
    constructor
    · rintro ⟨h1, h2, h3⟩
      refine ⟨h2, fun q hq => ?_⟩
      rcases List.mem_cons.mp hq with rfl | hq
      · exact h1
      · exact h3 q hq
    · rintro ⟨h1, h2⟩
      exact ⟨h2 p (List.mem_cons_self ..), h1, fun q hq => h2 q (List.mem_cons_of_mem _ hq)⟩
theorem within_iff {b a : Bnd} : within b a = true ↔ a.1 ≤ b.1 ∧ a.2.1 ≤ b.2.1 ∧ a.2.2 ≤ b.2.2 := by
  unfold within
  simp only [Bool.and_eq_true, decide_eq_true_eq, and_assoc]
theorem depth_parts (e : E) (k : Nat) (n : Nat) (h0 : k ≤ n) (h : ∀ q ∈ e.kids, k + 1 + q.depth ≤ n) (hk : e.kids = [] → e.depth = 0) : k + e.depth ≤ n := by
  rcases depth_by (e := e) (n := n - k) (fun q hq => by have := h q hq; omega) with a | ⟨_, a⟩ | a
  · omega
  · omega
  · cases e with
    | eps => have : E.depth E.eps = 0 := rfl; omega
    | sym c => have : E.depth (E.sym c) = 0 := rfl; omega
    | maybe e => have := h e (List.mem_singleton.mpr rfl); omega
    | many e => have := h e (List.mem_singleton.mpr rfl); omega
    | join es =>
      cases es with
      | nil => have := hk rfl; omega
      | cons x r => have := h x (List.mem_cons_self ..); omega
    | alt es =>
      cases es with
      | nil => have := hk rfl; omega
      | cons x r => have := h x (List.mem_cons_self ..); omega
theorem kids_nil {e : E} (h : e.ok = true) (k : e.kids = []) : e.depth = 0 := by
  cases e with
  | eps => rfl
  | sym c => rfl
  | maybe e => cases k
  | many e => cases k
  | join es =>
    rw [E.kids] at k
    subst k
    cases h
  | alt es =>
    rw [E.kids] at k
    subst k
    cases h
theorem parts_pos (e : E) : 1 ≤ e.parts := by
  rw [parts_kids]
  omega
theorem sum_pred (es : List E) : (es.map fun e => e.parts - 1).sum + es.length = (es.map E.parts).sum := by
  induction es with
  | nil => rfl
  | cons e es ih =>
    have := parts_pos e
    simp only [List.map_cons, List.sum_cons, List.length_cons]
    omega
/-- one look at an expression -/
theorem tot_step {b : Bnd} {e : E} {k : Nat} {st : Stk} {a : Bnd} (h : e.ok = true) :
    totE ((e.kids.map fun y => (y, k + 1)).reverse ++ st) (a.1 + e.own, max a.2.1 k, a.2.2 + e.kids.length) = totE ((e, k) :: st) a := by
  have hp := places_kids e
  have hq := parts_kids e
  have hs := sum_pred e.kids
  unfold totE
  refine Prod.ext ?_ (Prod.ext ?_ ?_)
  · show a.1 + e.own + _ = a.1 + _
    rw [List.map_append, List.sum_append, List.map_reverse, List.sum_reverse, List.map_map, List.map_cons, List.sum_cons]
    show a.1 + e.own + ((e.kids.map E.places).sum + _) = a.1 + (e.places + _)
    omega
  · show deepE _ (max a.2.1 k) = deepE ((e, k) :: st) a.2.1
    refine Nat.le_antisymm (deepE_le.mpr ⟨?_, ?_⟩) (deepE_le.mpr ⟨?_, ?_⟩)
    · refine Nat.max_le.mpr ⟨deepE_max _ _, ?_⟩
      exact Nat.le_trans (Nat.le_add_right _ _) ((deepE_le.mp (Nat.le_refl _)).2 (e, k) (List.mem_cons_self ..))
    · intro p hp
      rcases List.mem_append.mp hp with hp | hp
      · rw [List.mem_reverse, List.mem_map] at hp
        obtain ⟨y, hy, rfl⟩ := hp
        have := depth_kids e y hy
        have q := (deepE_le.mp (Nat.le_refl (deepE ((e, k) :: st) a.2.1))).2 (e, k) (List.mem_cons_self ..)
        show k + 1 + y.depth ≤ _
        have q' : k + e.depth ≤ deepE ((e, k) :: st) a.2.1 := q
        omega
      · exact (deepE_le.mp (Nat.le_refl (deepE ((e, k) :: st) a.2.1))).2 p (List.mem_cons_of_mem _ hp)
    · exact Nat.le_trans (Nat.le_max_left _ _) (deepE_max _ _)
    · intro p hp
      have L := (deepE_le.mp (Nat.le_refl (deepE ((e.kids.map fun y => (y, k + 1)).reverse ++ st) (max a.2.1 k))))
      rcases List.mem_cons.mp hp with rfl | hp
      · refine depth_parts e k _ (Nat.le_trans (Nat.le_max_right _ _) L.1) (fun q hq => ?_) (kids_nil h)
        exact L.2 (q, k + 1) (List.mem_append_left _ (List.mem_reverse.mpr (List.mem_map.mpr ⟨q, hq, rfl⟩)))
      · exact L.2 p (List.mem_append_right _ hp)
  · show a.2.2 + e.kids.length + _ = a.2.2 + _
    rw [List.map_append, List.sum_append, List.map_reverse, List.sum_reverse, List.map_map, List.map_cons, List.sum_cons]
    show a.2.2 + e.kids.length + ((e.kids.map fun e => e.parts - 1).sum + _) = a.2.2 + ((e.parts - 1) + _)
    omega
theorem tot_ge (st : Stk) (a : Bnd) : a.1 ≤ (totE st a).1 ∧ a.2.1 ≤ (totE st a).2.1 ∧ a.2.2 ≤ (totE st a).2.2 := ⟨Nat.le_add_right _ _, deepE_max _ _, Nat.le_add_right _ _⟩
theorem sD_step (e : E) (k : Nat) (st : Stk) : ((e.kids.map E.toD).map fun y => (y, k + 1)).reverse ++ sD st = sD ((e.kids.map fun y => (y, k + 1)).reverse ++ st) := by
  unfold sD
  rw [List.map_append, List.map_reverse, List.map_map, List.map_map]
  rfl
theorem look_ok {b : Bnd} : ∀ (n : Nat) (st : Stk) (a : Bnd), msr (sD st) < n → (∀ p ∈ st, p.1.ok = true) → within b a = true → look b n (sD st) a = if within b (totE st a) = true then some (totE st a) else none
  | 0, st, a, h, _, _ => absurd h (Nat.not_lt_zero _)
  | n + 1, [], a, _, _, hw => by
    have e : totE [] a = a := rfl
    rw [e, if_pos hw]
    rfl
  | n + 1, (e, k) :: st, a, hm, ho, hw => by
    have h := ho (e, k) (List.mem_cons_self ..)
    have hi := inner_toD h
    show (match inner e.toD with | none => none | some ys => if within b (a.1 + places1 e.toD, max a.2.1 k, a.2.2 + ys.length) = true then look b n ((ys.map fun y => (y, k + 1)).reverse ++ sD st) (a.1 + places1 e.toD, max a.2.1 k, a.2.2 + ys.length) else none) = _
    rw [hi]
    show (if within b (a.1 + places1 e.toD, max a.2.1 k, a.2.2 + (e.kids.map E.toD).length) = true then look b n (((e.kids.map E.toD).map fun y => (y, k + 1)).reverse ++ sD st) (a.1 + places1 e.toD, max a.2.1 k, a.2.2 + (e.kids.map E.toD).length) else none) = _
    rw [places1_toD, List.length_map, sD_step]
    have ts := tot_step (b := b) (k := k) (st := st) (a := a) h
    by_cases c : within b (a.1 + e.own, max a.2.1 k, a.2.2 + e.kids.length) = true
    · have m1 : msr (sD ((e.kids.map fun y => (y, k + 1)).reverse ++ st)) < n := by
        have := msr_step (k := k) (st := sD st) hi
        rw [sD_step] at this
        have hm' : msr ((e.toD, k) :: sD st) < n + 1 := hm
        exact Nat.lt_of_lt_of_le this (Nat.le_of_lt_succ hm')
      rw [if_pos c, look_ok n _ _ m1 (fun p hp => ?_) c, ts]
      rcases List.mem_append.mp hp with hp | hp
      · rw [List.mem_reverse, List.mem_map] at hp
        obtain ⟨y, hy, rfl⟩ := hp
        exact ok_kids h y hy
      · exact ho p (List.mem_cons_of_mem _ hp)
    · rw [if_neg c, if_neg]
      intro z
      rw [← ts] at z
      apply c
      have g := tot_ge ((e.kids.map fun y => (y, k + 1)).reverse ++ st) (a.1 + e.own, max a.2.1 k, a.2.2 + e.kids.length)
      rw [within_iff] at z ⊢
      exact ⟨Nat.le_trans g.1 z.1, Nat.le_trans g.2.1 z.2.1, Nat.le_trans g.2.2 z.2.2⟩
/-- something wrong within -/
inductive Bad : D → Prop where
  | here {d : D} (h : inner d = none) : Bad d
  | inn {d y : D} {ys : List D} (h : inner d = some ys) (m : y ∈ ys) (b : Bad y) : Bad d
theorem look_bad {b : Bnd} : ∀ (n : Nat) (st : List (D × Nat)) (a : Bnd), (∃ p ∈ st, Bad p.1) → look b n st a = none
  | 0, _, _, _ => rfl
  | n + 1, [], _, h => by
    obtain ⟨p, hp, _⟩ := h
    cases hp
  | n + 1, (d, k) :: st, a, h => by
    show (match inner d with | none => none | some ys => if within b (a.1 + places1 d, max a.2.1 k, a.2.2 + ys.length) = true then look b n ((ys.map fun y => (y, k + 1)).reverse ++ st) (a.1 + places1 d, max a.2.1 k, a.2.2 + ys.length) else none) = none
    cases hi : inner d with
    | none => rfl
    | some ys =>
      show (if within b (a.1 + places1 d, max a.2.1 k, a.2.2 + ys.length) = true then look b n ((ys.map fun y => (y, k + 1)).reverse ++ st) (a.1 + places1 d, max a.2.1 k, a.2.2 + ys.length) else none) = none
      split
      · refine look_bad n _ _ ?_
        obtain ⟨p, hp, hb⟩ := h
        rcases List.mem_cons.mp hp with rfl | hp
        · cases hb with
          | here z => rw [z] at hi; cases hi
          | inn z m hb =>
            rw [z] at hi
            cases hi
            exact ⟨(_, k + 1), List.mem_append_left _ (List.mem_reverse.mpr (List.mem_map.mpr ⟨_, m, rfl⟩)), hb⟩
        · exact ⟨p, List.mem_append_right _ hp, hb⟩
      · rfl
/-- what sizes_within gives of a datum -/
def sizesOf (b : Bnd) (d : D) : Option Bnd := look b (d.size + 1) [(d, 0)] (0, 0, 1)
theorem sizes_ok {b : Bnd} {e : E} (h : e.ok = true) (hb : 1 ≤ b.2.2) : sizesOf b e.toD = if within b (e.places, e.depth, e.parts) = true then some (e.places, e.depth, e.parts) else none := by
  have q := look_ok (b := b) (e.toD.size + 1) [(e, 0)] (0, 0, 1) (by show msr [(e.toD, 0)] < _; unfold msr; simp) (fun p hp => by rw [List.mem_singleton] at hp; subst hp; exact h) (within_iff.mpr ⟨Nat.zero_le _, Nat.zero_le _, hb⟩)
  have t : totE [(e, 0)] (0, 0, 1) = (e.places, e.depth, e.parts) := by
    have := parts_pos e
    refine Prod.ext ?_ (Prod.ext ?_ ?_)
    · show 0 + (e.places + 0) = e.places
      omega
    · show max (0 + e.depth) 0 = e.depth
      omega
    · show 1 + (e.parts - 1 + 0) = e.parts
      omega
  rw [t] at q
  exact q
theorem sizes_bad {b : Bnd} {d : D} (h : Bad d) : sizesOf b d = none := look_bad _ _ _ ⟨(d, 0), List.mem_singleton.mpr rfl, h⟩
theorem headFlat_toD (e : E) : headFlat e.toD = true := by
  cases e <;> rw [E.toD] <;> rfl
theorem rowFlat_toDs (es : List E) : rowFlat (.tup (E.toD.toDs es)) = true := by
  rw [toDs_eq]
  show (es.map E.toD).all headFlat = true
  rw [List.all_eq_true]
  intro d hd
  rw [List.mem_map] at hd
  obtain ⟨e, _, rfl⟩ := hd
  exact headFlat_toD e
theorem fl_pair {w : Str} {y : D} (h : w = sJoin ∨ w = sOr → rowFlat y = true) (k : Fl y) : Fl (.tup [.str w, y]) := by
  refine .tup (fun w' y' e => ?_) fun d hd => ?_
  · cases e
    exact h
  · rcases List.mem_cons.mp hd with rfl | hd
    · exact .str _
    · rw [List.mem_singleton] at hd
      subst hd
      exact k
theorem toD_str {e : E} {w : Str} (h : e.toD = .str w) : ¬ (w = sJoin ∨ w = sOr) := by
  cases e with
  | eps =>
    rw [E.toD] at h
    cases h
    rintro (h | h)
    · exact je h.symm
    · exact oe h.symm
  | sym c =>
    rw [E.toD] at h
    cases h
    rintro (h | h)
    · have := congrArg Str.length h
      rw [lJ] at this
      cases this
    · have := congrArg Str.length h
      rw [lO] at this
      cases this
  | maybe e => rw [E.toD] at h; cases h
  | many e => rw [E.toD] at h; cases h
  | join es => rw [E.toD] at h; cases h
  | alt es => rw [E.toD] at h; cases h
mutual
theorem fl_toD : ∀ e : E, Fl e.toD
  | .eps => .str _
  | .sym c => .str _
  | .maybe e => by
    rw [E.toD]
    exact fl_pair (fun h => (h.elim (fun h => jm h.symm) fun h => om h.symm).elim) (fl_toD e)
  | .many e => by
    rw [E.toD]
    exact fl_pair (fun h => (h.elim (fun h => jn h.symm) fun h => on h.symm).elim) (fl_toD e)
  | .join es => by
    rw [E.toD]
    exact fl_pair (fun _ => rowFlat_toDs es) (fl_toDs es)
  | .alt es => by
    rw [E.toD]
    exact fl_pair (fun _ => rowFlat_toDs es) (fl_toDs es)
theorem fl_toDs : ∀ es : List E, Fl (.tup (E.toD.toDs es))
  | [] => .tup (fun w y h => by cases h) fun d hd => by cases hd
  | e :: es => by
    have h := fl_toDs es
    have h0 := fl_toD e
    refine .tup (fun w y z hw => ?_) fun d hd => ?_
    · rw [E.toD.toDs] at z
      have z1 : e.toD = .str w := (List.cons.inj z).1
      exact absurd hw (toD_str z1)
    · rw [E.toD.toDs] at hd
      rcases List.mem_cons.mp hd with rfl | hd
      · exact h0
      · cases h with
        | tup _ k => exact k d hd
end
end My
namespace My
open PySem PySem.Spec PyProof.Rows L2
/-! ### which places come first, last, behind one another -/
structure Gl where
  nul : Bool
  fst : List Nat
  lst : List Nat
  fol : List (Nat × Nat)
def prodL (xs ys : List Nat) : List (Nat × Nat) := (xs.map fun i => ys.map fun j => (i, j)).flatten
theorem mem_prodL {xs ys : List Nat} {i j : Nat} : (i, j) ∈ prodL xs ys ↔ i ∈ xs ∧ j ∈ ys := by
  unfold prodL
  rw [List.mem_flatten]
  constructor
  · rintro ⟨l, hl, h⟩
    obtain ⟨a, ha, rfl⟩ := List.mem_map.mp hl
    obtain ⟨b, hb, e⟩ := List.mem_map.mp h
    cases e
    exact ⟨ha, hb⟩
  · rintro ⟨h1, h2⟩
    exact ⟨_, List.mem_map.mpr ⟨i, h1, rfl⟩, List.mem_map.mpr ⟨j, h2, rfl⟩⟩
def Gl.one : Gl := ⟨true, [], [], []⟩
def Gl.non : Gl := ⟨false, [], [], []⟩
def Gl.seq (a b : Gl) : Gl := ⟨a.nul && b.nul, a.fst ++ (if a.nul then b.fst else []), (if b.nul then a.lst else []) ++ b.lst, a.fol ++ (prodL a.lst b.fst ++ b.fol)⟩
def Gl.par (a b : Gl) : Gl := ⟨a.nul || b.nul, a.fst ++ b.fst, a.lst ++ b.lst, a.fol ++ b.fol⟩
def gl : E → Nat → Gl
  | .eps, _ => .one
  | .sym _, o => ⟨false, [o], [o], []⟩
  | .maybe e, o => ⟨true, (gl e o).fst, (gl e o).lst, (gl e o).fol⟩
  | .many e, o => ⟨true, (gl e o).fst, (gl e o).lst, (gl e o).fol ++ prodL (gl e o).lst (gl e o).fst⟩
  | .join es, o => glJ es o
  | .alt es, o => glA es o
where
  glJ : List E → Nat → Gl
    | [], _ => .one
    | e :: es, o => (gl e o).seq (glJ es (o + e.places))
  glA : List E → Nat → Gl
    | [], _ => .non
    | e :: es, o => (gl e o).par (glA es (o + e.places))
/-- the same but for the sequence of the pairs -/
structure Eqv (a b : Gl) : Prop where
  nul : a.nul = b.nul
  fst : a.fst = b.fst
  lst : a.lst = b.lst
  fol : ∀ x, x ∈ a.fol ↔ x ∈ b.fol
theorem Eqv.refl (a : Gl) : Eqv a a := ⟨rfl, rfl, rfl, fun _ => Iff.rfl⟩
theorem Eqv.trans {a b c : Gl} (x : Eqv a b) (y : Eqv b c) : Eqv a c := ⟨x.nul.trans y.nul, x.fst.trans y.fst, x.lst.trans y.lst, fun z => (x.fol z).trans (y.fol z)⟩
theorem Eqv.seq {a b c : Gl} (h : Eqv b c) : Eqv (a.seq b) (a.seq c) where
  nul := by unfold Gl.seq; rw [h.nul]
  fst := by unfold Gl.seq; rw [h.fst]
  lst := by unfold Gl.seq; rw [h.lst, h.nul]
  fol x := by
    unfold Gl.seq
    simp only [List.mem_append]
    rw [h.fst, h.fol]
theorem seq_one (a : Gl) : Eqv (a.seq .one) a where
  nul := Bool.and_true _
  fst := by show a.fst ++ (if a.nul = true then [] else []) = _; split <;> simp
  lst := by show (if true = true then a.lst else []) ++ [] = _; simp
  fol x := by
    show x ∈ a.fol ++ (prodL a.lst [] ++ []) ↔ _
    obtain ⟨i, j⟩ := x
    rw [List.mem_append, List.append_nil, mem_prodL]
    simp
theorem one_seq (a : Gl) : Eqv (Gl.one.seq a) a where
  nul := rfl
  fst := rfl
  lst := by show (if a.nul = true then [] else []) ++ a.lst = _; split <;> rfl
  fol x := Iff.rfl
theorem seq_assoc (a b c : Gl) : Eqv ((a.seq b).seq c) (a.seq (b.seq c)) where
  nul := Bool.and_assoc ..
  fst := by
    show (a.fst ++ (if a.nul = true then b.fst else [])) ++ (if (a.nul && b.nul) = true then c.fst else []) = a.fst ++ (if a.nul = true then b.fst ++ (if b.nul = true then c.fst else []) else [])
    cases a.nul <;> cases b.nul <;> simp
  lst := by
    show (if c.nul = true then (if b.nul = true then a.lst else []) ++ b.lst else []) ++ c.lst = (if (b.nul && c.nul) = true then a.lst else []) ++ ((if c.nul = true then b.lst else []) ++ c.lst)
    cases b.nul <;> cases c.nul <;> simp
  fol x := by
    obtain ⟨i, j⟩ := x
    unfold Gl.seq
    simp only [List.mem_append, mem_prodL]
    cases a.nul <;> cases b.nul <;> cases c.nul <;> simp <;> grind
theorem par_assoc (a b c : Gl) : (a.par b).par c = a.par (b.par c) := by
  unfold Gl.par
  simp [Bool.or_assoc, List.append_assoc]
theorem par_non (a : Gl) : a.par .non = a := by
  unfold Gl.par Gl.non
  simp
theorem non_par (a : Gl) : Gl.non.par a = a := by
  unfold Gl.par Gl.non
  simp
theorem sumP_cons (e : E) (es : List E) : ((e :: es).map E.places).sum = e.places + (es.map E.places).sum := by
  rw [List.map_cons, List.sum_cons]
theorem glJ_snoc (es : List E) (e : E) : ∀ o, Eqv (gl.glJ (es ++ [e]) o) ((gl.glJ es o).seq (gl e (o + (es.map E.places).sum))) := by
  induction es with
  | nil =>
    intro o
    show Eqv ((gl e o).seq Gl.one) (Gl.one.seq (gl e (o + 0)))
    rw [Nat.add_zero]
    refine (seq_one _).trans ?_
    have := one_seq (gl e o)
    exact ⟨this.nul.symm, this.fst.symm, this.lst.symm, fun x => (this.fol x).symm⟩
  | cons a es ih =>
    intro o
    show Eqv ((gl a o).seq (gl.glJ (es ++ [e]) (o + a.places))) (((gl a o).seq (gl.glJ es (o + a.places))).seq _)
    refine ((ih (o + a.places)).seq).trans ?_
    have h := seq_assoc (gl a o) (gl.glJ es (o + a.places)) (gl e (o + a.places + (es.map E.places).sum))
    rw [sumP_cons, ← Nat.add_assoc]
    exact ⟨h.nul.symm, h.fst.symm, h.lst.symm, fun x => (h.fol x).symm⟩
theorem glA_snoc (es : List E) (e : E) : ∀ o, gl.glA (es ++ [e]) o = (gl.glA es o).par (gl e (o + (es.map E.places).sum)) := by
  induction es with
  | nil =>
    intro o
    show (gl e o).par Gl.non = Gl.non.par (gl e (o + 0))
    rw [Nat.add_zero, par_non, non_par]
  | cons a es ih =>
    intro o
    show (gl a o).par (gl.glA (es ++ [e]) (o + a.places)) = ((gl a o).par (gl.glA es (o + a.places))).par _
    rw [ih, par_assoc, sumP_cons, ← Nat.add_assoc]
/-- all places that are told lie within the expression's own -/
structure Within (g : Gl) (o n : Nat) : Prop where
  fst : ∀ i ∈ g.fst, o ≤ i ∧ i < o + n
  lst : ∀ i ∈ g.lst, o ≤ i ∧ i < o + n
  fol : ∀ i j, (i, j) ∈ g.fol → (o ≤ i ∧ i < o + n) ∧ o ≤ j ∧ j < o + n
theorem Within.wide {g : Gl} {o n o' n' : Nat} (h : Within g o n) (h1 : o' ≤ o) (h2 : o + n ≤ o' + n') : Within g o' n' where
  fst i hi := by have := h.fst i hi; omega
  lst i hi := by have := h.lst i hi; omega
  fol i j hi := by have := h.fol i j hi; omega
theorem Within.seq {a b : Gl} {o n : Nat} (x : Within a o n) (y : Within b o n) : Within (a.seq b) o n where
  fst i hi := by
    rcases List.mem_append.mp hi with h | h
    · exact x.fst i h
    · split at h
      · exact y.fst i h
      · cases h
  lst i hi := by
    rcases List.mem_append.mp hi with h | h
    · split at h
      · exact x.lst i h
      · cases h
    · exact y.lst i h
  fol i j hi := by
    rcases List.mem_append.mp hi with h | h
    · exact x.fol i j h
    · rcases List.mem_append.mp h with h | h
      · have := mem_prodL.mp h
        exact ⟨x.lst i this.1, y.fst j this.2⟩
      · exact y.fol i j h
theorem Within.par {a b : Gl} {o n : Nat} (x : Within a o n) (y : Within b o n) : Within (a.par b) o n where
  fst i hi := (List.mem_append.mp hi).elim (x.fst i) (y.fst i)
  lst i hi := (List.mem_append.mp hi).elim (x.lst i) (y.lst i)
  fol i j hi := (List.mem_append.mp hi).elim (x.fol i j) (y.fol i j)
mutual
theorem gl_within : ∀ (e : E) (o : Nat), Within (gl e o) o e.places
  | .eps, o => ⟨(fun i h => by cases h), (fun i h => by cases h), (fun i j h => by cases h)⟩
  | .sym c, o => ⟨(fun i h => by rw [gl, List.mem_singleton] at h; rw [E.places]; omega), (fun i h => by rw [gl, List.mem_singleton] at h; rw [E.places]; omega), (fun i j h => by cases h)⟩
  | .maybe e, o => by
    have h := gl_within e o
    rw [gl, E.places]
    exact ⟨h.fst, h.lst, h.fol⟩
  | .many e, o => by
    have h := gl_within e o
    rw [gl, E.places]
    refine ⟨h.fst, h.lst, fun i j hi => ?_⟩
    rcases List.mem_append.mp hi with c | c
    · exact h.fol i j c
    · have := mem_prodL.mp c
      exact ⟨h.lst i this.1, h.fst j this.2⟩
  | .join es, o => by
    rw [gl, E.places]
    exact glJ_within es o
  | .alt es, o => by
    rw [gl, E.places]
    exact glA_within es o
theorem glJ_within : ∀ (es : List E) (o : Nat), Within (gl.glJ es o) o (E.places.placess es)
  | [], o => ⟨(fun i h => by cases h), (fun i h => by cases h), (fun i j h => by cases h)⟩
  | e :: es, o => by
    rw [gl.glJ, E.places.placess]
    exact ((gl_within e o).wide (Nat.le_refl _) (by omega)).seq ((glJ_within es (o + e.places)).wide (by omega) (by omega))
theorem glA_within : ∀ (es : List E) (o : Nat), Within (gl.glA es o) o (E.places.placess es)
  | [], o => ⟨(fun i h => by cases h), (fun i h => by cases h), (fun i j h => by cases h)⟩
  | e :: es, o => by
    rw [gl.glA, E.places.placess]
    exact ((gl_within e o).wide (Nat.le_refl _) (by omega)).par ((glA_within es (o + e.places)).wide (by omega) (by omega))
end
/-! ### the letters of the places -/
def E.letters : E → List Nat
  | .eps => []
  | .sym c => [c]
  | .maybe e => e.letters
  | .many e => e.letters
  | .join es => letterss es
  | .alt es => letterss es
where letterss : List E → List Nat
  | [] => []
  | e :: es => e.letters ++ letterss es
theorem letterss_snoc (es : List E) (e : E) : E.letters.letterss (es ++ [e]) = E.letters.letterss es ++ e.letters := by
  induction es with
  | nil => show e.letters ++ [] = [] ++ e.letters; simp
  | cons a es ih =>
    show a.letters ++ E.letters.letterss (es ++ [e]) = (a.letters ++ E.letters.letterss es) ++ e.letters
    rw [ih, List.append_assoc]
mutual
theorem letters_len : ∀ e : E, e.letters.length = e.places
  | .eps => rfl
  | .sym c => rfl
  | .maybe e => by rw [E.letters, E.places]; exact letters_len e
  | .many e => by rw [E.letters, E.places]; exact letters_len e
  | .join es => by rw [E.letters, E.places]; exact letterss_len es
  | .alt es => by rw [E.letters, E.places]; exact letterss_len es
theorem letterss_len : ∀ es : List E, (E.letters.letterss es).length = E.places.placess es
  | [] => rfl
  | e :: es => by rw [E.letters.letterss, E.places.placess, List.length_append, letters_len e, letterss_len es]
end
structure Short (g : Gl) (n : Nat) : Prop where
  fst : g.fst.length ≤ n
  lst : g.lst.length ≤ n
theorem Short.seq {a b : Gl} {m n : Nat} (x : Short a m) (y : Short b n) : Short (a.seq b) (m + n) where
  fst := by
    show (a.fst ++ (if a.nul = true then b.fst else [])).length ≤ _
    rw [List.length_append]
    have := x.fst
    have := y.fst
    split
    · omega
    · show _ + 0 ≤ _; omega
  lst := by
    show ((if b.nul = true then a.lst else []) ++ b.lst).length ≤ _
    rw [List.length_append]
    have := x.lst
    have := y.lst
    split
    · omega
    · show 0 + _ ≤ _; omega
theorem Short.par {a b : Gl} {m n : Nat} (x : Short a m) (y : Short b n) : Short (a.par b) (m + n) where
  fst := by
    show (a.fst ++ b.fst).length ≤ _
    rw [List.length_append]
    have := x.fst
    have := y.fst
    omega
  lst := by
    show (a.lst ++ b.lst).length ≤ _
    rw [List.length_append]
    have := x.lst
    have := y.lst
    omega
mutual
theorem gl_len : ∀ (e : E) (o : Nat), Short (gl e o) e.places
  | .eps, o => ⟨Nat.zero_le _, Nat.zero_le _⟩
  | .sym c, o => ⟨Nat.le_refl _, Nat.le_refl _⟩
  | .maybe e, o => by
    rw [gl, E.places]
    exact ⟨(gl_len e o).fst, (gl_len e o).lst⟩
  | .many e, o => by
    rw [gl, E.places]
    exact ⟨(gl_len e o).fst, (gl_len e o).lst⟩
  | .join es, o => by
    rw [gl, E.places]
    exact glJ_len es o
  | .alt es, o => by
    rw [gl, E.places]
    exact glA_len es o
theorem glJ_len : ∀ (es : List E) (o : Nat), Short (gl.glJ es o) (E.places.placess es)
  | [], o => ⟨Nat.zero_le _, Nat.zero_le _⟩
  | e :: es, o => by
    rw [gl.glJ, E.places.placess]
    exact (gl_len e o).seq (glJ_len es (o + e.places))
theorem glA_len : ∀ (es : List E) (o : Nat), Short (gl.glA es o) (E.places.placess es)
  | [], o => ⟨Nat.zero_le _, Nat.zero_le _⟩
  | e :: es, o => by
    rw [gl.glA, E.places.placess]
    exact (gl_len e o).par (glA_len es (o + e.places))
end
end My
namespace My
open PySem PySem.Spec PyProof.Rows L2
/-! ### ways through the places, and words -/
def lastN : Nat → List Nat → Nat
  | x, [] => x
  | _, y :: ys => lastN y ys
def chn (F : List (Nat × Nat)) : Nat → List Nat → Prop
  | _, [] => True
  | x, y :: ys => (x, y) ∈ F ∧ chn F y ys
def Sfx (g : Gl) (x : Nat) (xs : List Nat) : Prop := chn g.fol x xs ∧ lastN x xs ∈ g.lst
def Acc (g : Gl) : List Nat → Prop
  | [] => g.nul = true
  | x :: xs => x ∈ g.fst ∧ Sfx g x xs
/-- any number of words that are not empty, one behind the other -/
inductive Star {α : Type} (L : List α → Prop) : List α → Prop where
  | nil : Star L []
  | cons {u v : List α} (h : L u) (n : u ≠ []) (t : Star L v) : Star L (u ++ v)
theorem Star.mono {α : Type} {L M : List α → Prop} (k : ∀ u, L u → M u) {w : List α} (h : Star L w) : Star M w := by
  induction h with
  | nil => exact .nil
  | cons h n _ ih => exact .cons (k _ h) n ih
def MP : E → Nat → List Nat → Prop
  | .eps, _, ps => ps = []
  | .sym _, o, ps => ps = [o]
  | .maybe e, o, ps => ps = [] ∨ MP e o ps
  | .many e, o, ps => Star (MP e o) ps
  | .join es, o, ps => mpJ es o ps
  | .alt es, o, ps => mpA es o ps
where
  mpJ : List E → Nat → List Nat → Prop
    | [], _, ps => ps = []
    | e :: es, o, ps => ∃ us vs, ps = us ++ vs ∧ MP e o us ∧ mpJ es (o + e.places) vs
  mpA : List E → Nat → List Nat → Prop
    | [], _, _ => False
    | e :: es, o, ps => MP e o ps ∨ mpA es (o + e.places) ps
def MW : E → List Nat → Prop
  | .eps, w => w = []
  | .sym c, w => w = [c]
  | .maybe e, w => w = [] ∨ MW e w
  | .many e, w => Star (MW e) w
  | .join es, w => mwJ es w
  | .alt es, w => mwA es w
where
  mwJ : List E → List Nat → Prop
    | [], w => w = []
    | e :: es, w => ∃ us vs, w = us ++ vs ∧ MW e us ∧ mwJ es vs
  mwA : List E → List Nat → Prop
    | [], _ => False
    | e :: es, w => MW e w ∨ mwA es w
theorem mp_eps (o : Nat) (ps : List Nat) : MP .eps o ps ↔ ps = [] := Iff.rfl
theorem mp_sym (c o : Nat) (ps : List Nat) : MP (.sym c) o ps ↔ ps = [o] := Iff.rfl
/-! #### one behind the other -/
theorem chn_mono {F G : List (Nat × Nat)} (k : ∀ x, x ∈ F → x ∈ G) : ∀ (ys : List Nat) (x : Nat), chn F x ys → chn G x ys
  | [], _, _ => trivial
  | y :: ys, x, h => ⟨k _ h.1, chn_mono k ys y h.2⟩
theorem chn_app {F : List (Nat × Nat)} : ∀ (us : List Nat) (x y : Nat) (vs : List Nat), chn F x us → (lastN x us, y) ∈ F → chn F y vs → chn F x (us ++ y :: vs)
  | [], _, _, _, _, h2, h3 => ⟨h2, h3⟩
  | _ :: us, _, _, _, h1, h2, h3 => ⟨h1.1, chn_app us _ _ _ h1.2 h2 h3⟩
theorem lastN_app : ∀ (us : List Nat) (x y : Nat) (vs : List Nat), lastN x (us ++ y :: vs) = lastN y vs
  | [], _, _, _ => rfl
  | u :: us, _, y, vs => lastN_app us u y vs
theorem lastN_app0 (x : Nat) (us : List Nat) : lastN x (us ++ []) = lastN x us := by rw [List.append_nil]
/-- a way that is within the later part stays there -/
theorem seq_right {a b : Gl} {o n m : Nat} (wa : Within a o n) (wb : Within b (o + n) m) : ∀ (xs : List Nat) (x : Nat), o + n ≤ x → Sfx (a.seq b) x xs → Sfx b x xs
  | [], x, hx, h => by
    refine ⟨trivial, ?_⟩
    have h2 : x ∈ (if b.nul = true then a.lst else []) ++ b.lst := h.2
    rcases List.mem_append.mp h2 with h2 | h2
    · split at h2
      · have := wa.lst x h2; omega
      · cases h2
    · exact h2
  | y :: ys, x, hx, h => by
    obtain ⟨⟨h1, h2⟩, h3⟩ := h
    have h1' : (x, y) ∈ a.fol ++ (prodL a.lst b.fst ++ b.fol) := h1
    rcases List.mem_append.mp h1' with c | c
    · have := (wa.fol x y c).1; omega
    · rcases List.mem_append.mp c with c | c
      · have := wa.lst x (mem_prodL.mp c).1; omega
      · have hy := (wb.fol x y c).2
        have r := seq_right wa wb ys y hy.1 ⟨h2, h3⟩
        exact ⟨⟨c, r.1⟩, r.2⟩
theorem seq_left {a b : Gl} {o n m : Nat} (wa : Within a o n) (wb : Within b (o + n) m) : ∀ (xs : List Nat) (x : Nat), x < o + n → Sfx (a.seq b) x xs → ∃ us vs, xs = us ++ vs ∧ Sfx a x us ∧ Acc b vs
  | [], x, hx, h => by
    have h2 : x ∈ (if b.nul = true then a.lst else []) ++ b.lst := h.2
    rcases List.mem_append.mp h2 with h2 | h2
    · split at h2
      · rename_i c
        exact ⟨[], [], rfl, ⟨trivial, h2⟩, c⟩
      · cases h2
    · have := wb.lst x h2; omega
  | y :: ys, x, hx, h => by
    obtain ⟨⟨h1, h2⟩, h3⟩ := h
    have h1' : (x, y) ∈ a.fol ++ (prodL a.lst b.fst ++ b.fol) := h1
    rcases List.mem_append.mp h1' with c | c
    · have hy := (wa.fol x y c).2
      obtain ⟨us, vs, e, r1, r2⟩ := seq_left wa wb ys y hy.2 ⟨h2, h3⟩
      subst e
      exact ⟨y :: us, vs, rfl, ⟨⟨c, r1.1⟩, r1.2⟩, r2⟩
    · rcases List.mem_append.mp c with c | c
      · obtain ⟨c1, c2⟩ := mem_prodL.mp c
        exact ⟨[], y :: ys, rfl, ⟨trivial, c1⟩, c2, seq_right wa wb ys y (wb.fst y c2).1 ⟨h2, h3⟩⟩
      · have := (wb.fol x y c).1; omega
theorem acc_seq {a b : Gl} {o n m : Nat} (wa : Within a o n) (wb : Within b (o + n) m) (ps : List Nat) : Acc (a.seq b) ps ↔ ∃ us vs, ps = us ++ vs ∧ Acc a us ∧ Acc b vs := by
  constructor
  · intro h
    cases ps with
    | nil =>
      have h' : (a.nul && b.nul) = true := h
      rw [Bool.and_eq_true] at h'
      exact ⟨[], [], rfl, h'.1, h'.2⟩
    | cons x xs =>
      obtain ⟨h1, h2⟩ := h
      have h1' : x ∈ a.fst ++ (if a.nul = true then b.fst else []) := h1
      rcases List.mem_append.mp h1' with c | c
      · obtain ⟨us, vs, e, r1, r2⟩ := seq_left wa wb xs x (wa.fst x c).2 h2
        subst e
        exact ⟨x :: us, vs, rfl, ⟨c, r1⟩, r2⟩
      · split at c
        · rename_i hn
          exact ⟨[], x :: xs, rfl, hn, c, seq_right wa wb xs x (wb.fst x c).1 h2⟩
        · cases c
  · rintro ⟨us, vs, rfl, h1, h2⟩
    cases us with
    | nil =>
      have h1' : a.nul = true := h1
      cases vs with
      | nil =>
        have h2' : b.nul = true := h2
        show (a.nul && b.nul) = true
        rw [h1', h2']
        rfl
      | cons y ys =>
        refine ⟨?_, chn_mono (fun x hx => List.mem_append_right _ (List.mem_append_right _ hx)) ys y h2.2.1, List.mem_append_right _ h2.2.2⟩
        show y ∈ a.fst ++ (if a.nul = true then b.fst else [])
        rw [if_pos h1']
        exact List.mem_append_right _ h2.1
    | cons x xs =>
      have ca := chn_mono (G := (a.seq b).fol) (fun z hz => List.mem_append_left _ hz) xs x h1.2.1
      cases vs with
      | nil =>
        have h2' : b.nul = true := h2
        rw [List.append_nil]
        refine ⟨List.mem_append_left _ h1.1, ca, ?_⟩
        show _ ∈ (if b.nul = true then a.lst else []) ++ b.lst
        rw [if_pos h2']
        exact List.mem_append_left _ h1.2.2
      | cons y ys =>
        refine ⟨List.mem_append_left _ h1.1, chn_app xs x y ys ca ?_ (chn_mono (fun z hz => List.mem_append_right _ (List.mem_append_right _ hz)) ys y h2.2.1), ?_⟩
        · exact List.mem_append_right _ (List.mem_append_left _ (mem_prodL.mpr ⟨h1.2.2, h2.1⟩))
        · show lastN x (xs ++ y :: ys) ∈ _
          rw [lastN_app]
          exact List.mem_append_right _ h2.2.2
/-! #### one or the other -/
theorem par_left {a b : Gl} {o n m : Nat} (wa : Within a o n) (wb : Within b (o + n) m) : ∀ (xs : List Nat) (x : Nat), x < o + n → Sfx (a.par b) x xs → Sfx a x xs
  | [], x, hx, h => by
    refine ⟨trivial, ?_⟩
    have h2 : x ∈ a.lst ++ b.lst := h.2
    rcases List.mem_append.mp h2 with h2 | h2
    · exact h2
    · have := wb.lst x h2; omega
  | y :: ys, x, hx, h => by
    obtain ⟨⟨h1, h2⟩, h3⟩ := h
    have h1' : (x, y) ∈ a.fol ++ b.fol := h1
    rcases List.mem_append.mp h1' with c | c
    · have r := par_left wa wb ys y (wa.fol x y c).2.2 ⟨h2, h3⟩
      exact ⟨⟨c, r.1⟩, r.2⟩
    · have := (wb.fol x y c).1; omega
theorem par_right {a b : Gl} {o n m : Nat} (wa : Within a o n) (wb : Within b (o + n) m) : ∀ (xs : List Nat) (x : Nat), o + n ≤ x → Sfx (a.par b) x xs → Sfx b x xs
  | [], x, hx, h => by
    refine ⟨trivial, ?_⟩
    have h2 : x ∈ a.lst ++ b.lst := h.2
    rcases List.mem_append.mp h2 with h2 | h2
    · have := wa.lst x h2; omega
    · exact h2
  | y :: ys, x, hx, h => by
    obtain ⟨⟨h1, h2⟩, h3⟩ := h
    have h1' : (x, y) ∈ a.fol ++ b.fol := h1
    rcases List.mem_append.mp h1' with c | c
    · have := (wa.fol x y c).1; omega
    · have r := par_right wa wb ys y (wb.fol x y c).2.1 ⟨h2, h3⟩
      exact ⟨⟨c, r.1⟩, r.2⟩
theorem acc_par {a b : Gl} {o n m : Nat} (wa : Within a o n) (wb : Within b (o + n) m) (ps : List Nat) : Acc (a.par b) ps ↔ Acc a ps ∨ Acc b ps := by
  cases ps with
  | nil =>
    show (a.nul || b.nul) = true ↔ _
    rw [Bool.or_eq_true]
    exact Iff.rfl
  | cons x xs =>
    constructor
    · rintro ⟨h1, h2⟩
      have h1' : x ∈ a.fst ++ b.fst := h1
      rcases List.mem_append.mp h1' with c | c
      · exact .inl ⟨c, par_left wa wb xs x (wa.fst x c).2 h2⟩
      · exact .inr ⟨c, par_right wa wb xs x (wb.fst x c).1 h2⟩
    · rintro (⟨h1, h2, h3⟩ | ⟨h1, h2, h3⟩)
      · exact ⟨List.mem_append_left _ h1, chn_mono (fun z hz => List.mem_append_left _ hz) xs x h2, List.mem_append_left _ h3⟩
      · exact ⟨List.mem_append_right _ h1, chn_mono (fun z hz => List.mem_append_right _ hz) xs x h2, List.mem_append_right _ h3⟩
/-! #### again and again -/
def Gl.rep (a : Gl) : Gl := ⟨true, a.fst, a.lst, a.fol ++ prodL a.lst a.fst⟩
theorem rep_sfx {a : Gl} : ∀ (xs : List Nat) (x : Nat), Sfx a.rep x xs → ∃ us vs, xs = us ++ vs ∧ Sfx a x us ∧ Star (Acc a) vs
  | [], x, h => ⟨[], [], rfl, ⟨trivial, h.2⟩, .nil⟩
  | y :: ys, x, h => by
    obtain ⟨⟨h1, h2⟩, h3⟩ := h
    obtain ⟨us, vs, e, r1, r2⟩ := rep_sfx ys y ⟨h2, h3⟩
    subst e
    have h1' : (x, y) ∈ a.fol ++ prodL a.lst a.fst := h1
    rcases List.mem_append.mp h1' with c | c
    · exact ⟨y :: us, vs, rfl, ⟨⟨c, r1.1⟩, r1.2⟩, r2⟩
    · obtain ⟨c1, c2⟩ := mem_prodL.mp c
      refine ⟨[], y :: (us ++ vs), rfl, ⟨trivial, c1⟩, ?_⟩
      have : Star (Acc a) ((y :: us) ++ vs) := .cons (u := y :: us) ⟨c2, r1⟩ (by simp) r2
      exact this
theorem rep_star {a : Gl} {ps : List Nat} (h : Star (Acc a) ps) : Acc a.rep ps := by
  induction h with
  | nil => rfl
  | @cons u v hu hn _ ih =>
    cases u with
    | nil => exact absurd rfl hn
    | cons x xs =>
      have ca := chn_mono (G := a.rep.fol) (fun z hz => List.mem_append_left _ hz) xs x hu.2.1
      cases v with
      | nil =>
        rw [List.append_nil]
        exact ⟨hu.1, ca, hu.2.2⟩
      | cons y ys =>
        refine ⟨hu.1, chn_app xs x y ys ca (List.mem_append_right _ (mem_prodL.mpr ⟨hu.2.2, ih.1⟩)) ih.2.1, ?_⟩
        show lastN x (xs ++ y :: ys) ∈ _
        rw [lastN_app]
        exact ih.2.2
theorem acc_rep (a : Gl) (ps : List Nat) : Acc a.rep ps ↔ Star (Acc a) ps := by
  refine ⟨fun h => ?_, rep_star⟩
  cases ps with
  | nil => exact .nil
  | cons x xs =>
    obtain ⟨us, vs, e, r1, r2⟩ := rep_sfx xs x h.2
    subst e
    exact .cons (u := x :: us) ⟨h.1, r1⟩ (by simp) r2
mutual
theorem acc_mp : ∀ (e : E) (o : Nat) (ps : List Nat), Acc (gl e o) ps ↔ MP e o ps
  | .eps, o, ps => by
    rw [gl, MP]
    cases ps with
    | nil => exact ⟨fun _ => rfl, fun _ => rfl⟩
    | cons x xs => exact ⟨fun h => (by cases h.1), fun h => by cases h⟩
  | .sym c, o, ps => by
    rw [gl, MP]
    cases ps with
    | nil => exact ⟨fun h => (by cases h), fun h => by cases h⟩
    | cons x xs =>
      constructor
      · rintro ⟨h1, h2, h3⟩
        have h1' := List.mem_singleton.mp h1
        subst h1'
        cases xs with
        | nil => rfl
        | cons y ys => exact absurd h2.1 (by intro c; cases c)
      · intro h
        cases h
        exact ⟨List.mem_singleton.mpr rfl, trivial, List.mem_singleton.mpr rfl⟩
  | .maybe e, o, ps => by
    have ih := acc_mp e o ps
    rw [gl, MP, ← ih]
    cases ps with
    | nil => exact ⟨fun _ => .inl rfl, fun _ => rfl⟩
    | cons x xs => exact ⟨fun h => .inr h, fun h => h.elim (fun c => by cases c) id⟩
  | .many e, o, ps => by
    have ih := acc_mp e o
    have e1 : Star (MP e o) ps ↔ Star (Acc (gl e o)) ps := ⟨Star.mono fun u h => (ih u).mpr h, Star.mono fun u h => (ih u).mp h⟩
    rw [MP, e1, ← acc_rep]
    exact Iff.rfl
  | .join es, o, ps => by
    rw [gl, MP]
    exact acc_mpJ es o ps
  | .alt es, o, ps => by
    rw [gl, MP]
    exact acc_mpA es o ps
theorem acc_mpJ : ∀ (es : List E) (o : Nat) (ps : List Nat), Acc (gl.glJ es o) ps ↔ MP.mpJ es o ps
  | [], o, ps => by
    rw [MP.mpJ]
    cases ps with
    | nil => exact ⟨fun _ => rfl, fun _ => rfl⟩
    | cons x xs => exact ⟨fun h => (by cases h.1), fun h => by cases h⟩
  | e :: es, o, ps => by
    rw [gl.glJ, MP.mpJ, acc_seq (gl_within e o) (glJ_within es (o + e.places))]
    exact exists_congr fun us => exists_congr fun vs => and_congr Iff.rfl (and_congr (acc_mp e o us) (acc_mpJ es _ vs))
theorem acc_mpA : ∀ (es : List E) (o : Nat) (ps : List Nat), Acc (gl.glA es o) ps ↔ MP.mpA es o ps
  | [], o, ps => by
    rw [MP.mpA]
    cases ps with
    | nil => exact ⟨fun h => (by cases h), fun h => h.elim⟩
    | cons x xs => exact ⟨fun h => (by cases h.1), fun h => h.elim⟩
  | e :: es, o, ps => by
    rw [gl.glA, MP.mpA, acc_par (gl_within e o) (glA_within es (o + e.places))]
    exact or_congr (acc_mp e o ps) (acc_mpA es _ ps)
end
/-! #### from places to letters -/
theorem map_split {α β : Type} {f : α → β} : ∀ {ps : List α} {u v : List β}, ps.map f = u ++ v → ∃ p1 p2, ps = p1 ++ p2 ∧ p1.map f = u ∧ p2.map f = v := by
  intro ps u v h
  exact ⟨ps.take u.length, ps.drop u.length, (List.take_append_drop ..).symm, by rw [List.map_take, h]; simp, by rw [List.map_drop, h]; simp⟩
theorem some_inj {u v : List Nat} (h : u.map some = v.map some) : u = v := by
  have := congrArg (List.map fun (o : Option Nat) => o.getD 0) h
  rw [List.map_map, List.map_map] at this
  have e : ((fun (o : Option Nat) => o.getD 0) ∘ some) = id := rfl
  rw [e, List.map_id, List.map_id] at this
  exact this
mutual
theorem mw_mp : ∀ (e : E) (o : Nat) (f : Nat → Option Nat), (∀ i, i < e.places → f (o + i) = e.letters[i]?) → ∀ w, MW e w ↔ ∃ ps, MP e o ps ∧ ps.map f = w.map some
  | .eps, o, f, hf, w => by
    rw [MW]
    constructor
    · rintro rfl
      exact ⟨[], rfl, rfl⟩
    · rintro ⟨ps, h, e⟩
      have h' : ps = [] := h
      subst h'
      cases w with
      | nil => rfl
      | cons c w => cases e
  | .sym c, o, f, hf, w => by
    have h0 := hf 0 (by rw [E.places]; exact Nat.one_pos)
    rw [Nat.add_zero] at h0
    have h0' : f o = some c := h0
    rw [MW]
    constructor
    · rintro rfl
      exact ⟨[o], rfl, by rw [List.map_singleton, List.map_singleton, h0']⟩
    · rintro ⟨ps, h, e⟩
      have h' : ps = [o] := h
      subst h'
      rw [List.map_singleton, h0'] at e
      exact (some_inj (u := [c]) e).symm
  | .maybe e, o, f, hf, w => by
    have ih := mw_mp e o f hf w
    rw [MW, ih]
    constructor
    · rintro (rfl | ⟨ps, h, e⟩)
      · exact ⟨[], .inl rfl, rfl⟩
      · exact ⟨ps, .inr h, e⟩
    · rintro ⟨ps, h | h, e⟩
      · subst h
        cases w with
        | nil => exact .inl rfl
        | cons c w => cases e
      · exact .inr ⟨ps, h, e⟩
  | .many e, o, f, hf, w => by
    have ih := mw_mp e o f hf
    rw [MW]
    constructor
    · intro h
      induction h with
      | nil => exact ⟨[], .nil, rfl⟩
      | cons h n _ ihv =>
        obtain ⟨p1, h1, e1⟩ := (ih _).mp h
        obtain ⟨p2, h2, e2⟩ := ihv
        refine ⟨p1 ++ p2, .cons h1 (fun c => n ?_) h2, by rw [List.map_append, List.map_append, e1, e2]⟩
        subst c
        exact some_inj e1.symm
    · rintro ⟨ps, h, e⟩
      have h' : Star (MP _ o) ps := h
      clear h
      induction h' generalizing w with
      | nil =>
        cases w with
        | nil => exact .nil
        | cons c w => cases e
      | @cons u v hu hn _ ihv =>
        rw [List.map_append] at e
        obtain ⟨w1, w2, rfl, e1, e2⟩ := map_split e.symm
        refine .cons ((ih _).mpr ⟨u, hu, e1.symm⟩) (fun c => hn ?_) (ihv w2 e2.symm)
        subst c
        cases u with
        | nil => rfl
        | cons x u => cases e1
  | .join es, o, f, hf, w => by
    rw [MW]
    exact mw_mpJ es o f hf w
  | .alt es, o, f, hf, w => by
    rw [MW]
    exact mw_mpA es o f hf w
theorem mw_mpJ : ∀ (es : List E) (o : Nat) (f : Nat → Option Nat), (∀ i, i < E.places.placess es → f (o + i) = (E.letters.letterss es)[i]?) → ∀ w, MW.mwJ es w ↔ ∃ ps, MP.mpJ es o ps ∧ ps.map f = w.map some
  | [], o, f, hf, w => by
    rw [MW.mwJ]
    constructor
    · rintro rfl
      exact ⟨[], rfl, rfl⟩
    · rintro ⟨ps, h, e⟩
      have h' : ps = [] := h
      subst h'
      cases w with
      | nil => rfl
      | cons c w => cases e
  | e :: es, o, f, hf, w => by
    have hl := letters_len e
    have i1 := mw_mp e o f (fun i hi => by
      rw [hf i (by rw [E.places.placess]; omega), E.letters.letterss, List.getElem?_append_left (by omega)])
    have i2 := mw_mpJ es (o + e.places) f (fun i hi => by
      rw [Nat.add_assoc, hf (e.places + i) (by rw [E.places.placess]; omega), E.letters.letterss, List.getElem?_append_right (by omega), hl, Nat.add_sub_cancel_left])
    rw [MW.mwJ]
    constructor
    · rintro ⟨us, vs, rfl, h1, h2⟩
      obtain ⟨p1, g1, e1⟩ := (i1 _).mp h1
      obtain ⟨p2, g2, e2⟩ := (i2 _).mp h2
      exact ⟨p1 ++ p2, ⟨p1, p2, rfl, g1, g2⟩, by rw [List.map_append, List.map_append, e1, e2]⟩
    · rintro ⟨ps, ⟨p1, p2, rfl, g1, g2⟩, ee⟩
      rw [List.map_append] at ee
      obtain ⟨w1, w2, rfl, e1, e2⟩ := map_split ee.symm
      exact ⟨w1, w2, rfl, (i1 _).mpr ⟨p1, g1, e1.symm⟩, (i2 _).mpr ⟨p2, g2, e2.symm⟩⟩
theorem mw_mpA : ∀ (es : List E) (o : Nat) (f : Nat → Option Nat), (∀ i, i < E.places.placess es → f (o + i) = (E.letters.letterss es)[i]?) → ∀ w, MW.mwA es w ↔ ∃ ps, MP.mpA es o ps ∧ ps.map f = w.map some
  | [], o, f, hf, w => by
    rw [MW.mwA]
    exact ⟨fun h => h.elim, fun ⟨_, h, _⟩ => h.elim⟩
  | e :: es, o, f, hf, w => by
    have hl := letters_len e
    have i1 := mw_mp e o f (fun i hi => by
      rw [hf i (by rw [E.places.placess]; omega), E.letters.letterss, List.getElem?_append_left (by omega)]) w
    have i2 := mw_mpA es (o + e.places) f (fun i hi => by
      rw [Nat.add_assoc, hf (e.places + i) (by rw [E.places.placess]; omega), E.letters.letterss, List.getElem?_append_right (by omega), hl, Nat.add_sub_cancel_left]) w
    rw [MW.mwA, i1, i2]
    constructor
    · rintro (⟨ps, h, e⟩ | ⟨ps, h, e⟩)
      · exact ⟨ps, .inl h, e⟩
      · exact ⟨ps, .inr h, e⟩
    · rintro ⟨ps, h | h, e⟩
      · exact .inl ⟨ps, h, e⟩
      · exact .inr ⟨ps, h, e⟩
end
/-- a word is right: some way through the places has its letters -/
theorem mw_acc (e : E) (w : List Nat) : MW e w ↔ ∃ ps, Acc (gl e 0) ps ∧ ps.map (fun p => e.letters[p]?) = w.map some := by
  rw [mw_mp e 0 (fun p => e.letters[p]?) (fun i _ => by rw [Nat.zero_add])]
  exact exists_congr fun ps => and_congr (acc_mp e 0 ps).symm Iff.rfl
end My
namespace My
open PySem PySem.Spec PyProof.Rows L2
def keysD (ms : List Int) : List (Key × V) := ms.map fun x => (Sum.inl x, V.bl true)
theorem putK_keys (ms : List Int) (x : Int) : putK (keysD ms) (Sum.inl x : Key) (V.bl true) = keysD (if x ∈ ms then ms else ms ++ [x]) := by
  unfold putK keysD
  have e1 : ((ms.map fun x => ((Sum.inl x : Key), V.bl true)).any fun kv => decide (kv.1 = Sum.inl x)) = decide (x ∈ ms) := by
    induction ms with
    | nil => simp
    | cons m ms ih =>
      rw [List.map_cons, List.any_cons, ih]
      by_cases c : m = x
      · subst c
        simp
      · have : ¬ ((Sum.inl m : Key) = Sum.inl x) := fun h => c (Sum.inl.inj h)
        rw [decide_eq_false this, Bool.false_or]
        by_cases d : x ∈ ms
        · rw [decide_eq_true d, decide_eq_true (List.mem_cons_of_mem _ d)]
        · rw [decide_eq_false d, decide_eq_false]
          intro h
          rcases List.mem_cons.mp h with h | h
          · exact c h.symm
          · exact d h
  rw [e1]
  by_cases c : x ∈ ms
  · rw [if_pos (decide_eq_true c), if_pos c, List.map_map]
    refine List.map_congr_left fun y _ => ?_
    show (if (Sum.inl y : Key) = Sum.inl x then ((Sum.inl y : Key), V.bl true) else ((Sum.inl y : Key), V.bl true)) = _
    split <;> rfl
  · rw [if_neg (by rw [decide_eq_false c]; exact Bool.false_ne_true), if_neg c, List.map_append]
    rfl
theorem keysD_vals (ms : List Int) : (keysD ms).map (fun kv => kV kv.1) = ms.map V.int := by
  unfold keysD
  rw [List.map_map]
  rfl
theorem keysD_len (ms : List Int) : (keysD ms).length = ms.length := List.length_map _
/-- a new key beside the others, once -/
def addK (ms : List Int) (x : Int) : List Int := if x ∈ ms then ms else ms ++ [x]
theorem mem_addK {ms : List Int} {x y : Int} : y ∈ addK ms x ↔ y ∈ ms ∨ y = x := by
  unfold addK
  split
  · rename_i h
    constructor
    · exact .inl
    · rintro (c | rfl)
      · exact c
      · exact h
  · rw [List.mem_append, List.mem_singleton]
theorem nodup_addK {ms : List Int} {x : Int} (h : ms.Nodup) : (addK ms x).Nodup := by
  unfold addK
  split
  · exact h
  · rename_i c
    rw [List.nodup_append]
    exact ⟨h, by simp, fun a ha b hb e => c (by rw [List.mem_singleton] at hb; rw [← hb, ← e]; exact ha)⟩
theorem len_addK (ms : List Int) (x : Int) : (addK ms x).length ≤ ms.length + 1 := by
  unfold addK
  split
  · omega
  · rw [List.length_append]; exact Nat.le_refl _
theorem nodup_len : ∀ (n : Nat) (l : List Int), l.Nodup → (∀ x ∈ l, 0 ≤ x ∧ x < n) → l.length ≤ n
  | 0, l, _, h => by
    cases l with
    | nil => exact Nat.le_refl _
    | cons x l =>
      have := h x (List.mem_cons_self ..)
      omega
  | n + 1, l, hd, h => by
    by_cases c : (n : Int) ∈ l
    · have h1 := nodup_len n (l.erase (n : Int)) (hd.erase _) fun x hx => by
        have h2 := h x (List.mem_of_mem_erase hx)
        have h3 : x ≠ (n : Int) := fun e => by
          rw [e] at hx
          exact (List.Nodup.not_mem_erase hd) hx
        omega
      have h4 := List.length_erase_of_mem c
      omega
    · have h1 := nodup_len n l hd fun x hx => by
        have h2 := h x hx
        have h3 : x ≠ (n : Int) := fun e => c (e ▸ hx)
        omega
      omega
theorem take_snoc {α : Type} {l : List α} {i : Nat} {x : α} (h : l[i]? = some x) : l.take (i + 1) = l.take i ++ [x] := by
  rw [List.take_add_one, h]
  rfl
end My
namespace My
open PySem PySem.Spec PyProof.Rows L2
/-! ### words, listed -/
theorem str_ext {a b : Str} (h : a.cps.toList = b.cps.toList) : a = b := by
  obtain ⟨⟨x⟩⟩ := a
  obtain ⟨⟨y⟩⟩ := b
  have e : x = y := h
  rw [e]
theorem cps_app (a b : Str) : (a ++ b).cps.toList = a.cps.toList ++ b.cps.toList := by
  show (a.cps ++ b.cps).toList = _
  simp
theorem len_app (a b : Str) : (a ++ b).length = a.length + b.length := by
  show (a.cps ++ b.cps).size = _
  rw [Array.size_append]
  rfl
theorem len_cps (z : Str) : z.length = z.cps.toList.length := Array.length_toList.symm
theorem cps_no : sNo.cps.toList = [] := by decide +kernel
theorem no_of_cps {z : Str} (h : z.cps.toList = []) : z = sNo := str_ext (h.trans cps_no.symm)
theorem len_no : sNo.length = 0 := by decide +kernel
/-- at most so many words, snoc by snoc -/
def Pw (L : List Nat → Prop) : Nat → List Nat → Prop
  | 0, w => w = []
  | n + 1, w => Pw L n w ∨ ∃ u v, w = u ++ v ∧ Pw L n u ∧ L v
theorem Pw.up {L : List Nat → Prop} {n : Nat} {w : List Nat} (h : Pw L n w) : ∀ k, Pw L (n + k) w
  | 0 => h
  | k + 1 => .inl (Pw.up h k)
theorem Pw.le {L : List Nat → Prop} {n m : Nat} {w : List Nat} (h : Pw L n w) (l : n ≤ m) : Pw L m w := by
  have := h.up (m - n)
  rw [show n + (m - n) = m by omega] at this
  exact this
theorem Pw.cons {L : List Nat → Prop} {u : List Nat} (hu : L u) : ∀ (n : Nat) (w : List Nat), Pw L n w → Pw L (n + 1) (u ++ w)
  | 0, w, h => by
    have h' : w = [] := h
    subst h'
    exact .inr ⟨[], u, by simp, rfl, hu⟩
  | n + 1, w, h => by
    rcases h with h | ⟨a, b, rfl, h1, h2⟩
    · exact .inl (Pw.cons hu n w h)
    · exact .inr ⟨u ++ a, b, by simp, Pw.cons hu n a h1, h2⟩
theorem star_snoc {L : List Nat → Prop} {u v : List Nat} (h : Star L u) (hv : L v) : Star L (u ++ v) := by
  induction h with
  | nil =>
    by_cases c : v = []
    · subst c
      exact .nil
    · have : Star L (v ++ []) := .cons hv c .nil
      rw [List.append_nil] at this
      exact this
  | cons h n _ ih =>
    rw [List.append_assoc]
    exact .cons h n ih
theorem star_pw {L : List Nat → Prop} {w : List Nat} (h : Star L w) : Pw L w.length w := by
  induction h with
  | nil => rfl
  | @cons u v h n _ ih =>
    have : 0 < u.length := List.length_pos_iff.mpr n
    refine (Pw.cons h _ v ih).le ?_
    rw [List.length_append]
    omega
theorem pw_star {L : List Nat → Prop} : ∀ (n : Nat) (w : List Nat), Pw L n w → Star L w
  | 0, w, h => by
    have h' : w = [] := h
    subst h'
    exact .nil
  | n + 1, w, h => by
    rcases h with h | ⟨a, b, rfl, h1, h2⟩
    · exact pw_star n w h
    · exact star_snoc (pw_star n a h1) h2
theorem star_iff {L : List Nat → Prop} {w : List Nat} {n : Nat} (h : w.length ≤ n) : Star L w ↔ Pw L n w := ⟨fun s => (star_pw s).le h, pw_star n w⟩
theorem mwJ_snoc (e : E) : ∀ (es : List E) (w : List Nat), MW.mwJ (es ++ [e]) w ↔ ∃ u v, w = u ++ v ∧ MW.mwJ es u ∧ MW e v
  | [], w => by
    show (∃ us vs, w = us ++ vs ∧ MW e us ∧ vs = []) ↔ ∃ u v, w = u ++ v ∧ u = [] ∧ MW e v
    constructor
    · rintro ⟨us, vs, rfl, h, rfl⟩
      exact ⟨[], us, by simp, rfl, h⟩
    · rintro ⟨u, v, rfl, rfl, h⟩
      exact ⟨v, [], by simp, h, rfl⟩
  | k :: es, w => by
    show (∃ us vs, w = us ++ vs ∧ MW k us ∧ MW.mwJ (es ++ [e]) vs) ↔ ∃ u v, w = u ++ v ∧ (∃ us vs, u = us ++ vs ∧ MW k us ∧ MW.mwJ es vs) ∧ MW e v
    constructor
    · rintro ⟨us, vs, rfl, h, g⟩
      obtain ⟨x, y, rfl, h1, h2⟩ := (mwJ_snoc e es vs).mp g
      exact ⟨us ++ x, y, by simp, ⟨us, x, rfl, h, h1⟩, h2⟩
    · rintro ⟨u, v, rfl, ⟨us, vs, rfl, h, g⟩, h2⟩
      exact ⟨us, vs ++ v, by simp, h, (mwJ_snoc e es _).mpr ⟨vs, v, rfl, g, h2⟩⟩
theorem mwA_iff : ∀ (es : List E) (w : List Nat), MW.mwA es w ↔ ∃ e ∈ es, MW e w
  | [], w => ⟨fun h => h.elim, fun ⟨_, h, _⟩ => by cases h⟩
  | k :: es, w => by
    show (MW k w ∨ MW.mwA es w) ↔ _
    rw [mwA_iff es w]
    simp
/-! #### the letters of right words -/
mutual
theorem mw_lets : ∀ (e : E), e.ok = true → ∀ w, MW e w → ∀ c ∈ w, c ∈ e.letters ∧ 97 ≤ c ∧ c ≤ 100
  | .eps, _, w, h, c, hc => by
    rw [MW] at h
    subst h
    cases hc
  | .sym d, ho, w, h, c, hc => by
    rw [MW] at h
    subst h
    rw [List.mem_singleton] at hc
    subst hc
    rw [E.ok] at ho
    simp only [Bool.and_eq_true, decide_eq_true_eq] at ho
    exact ⟨List.mem_singleton.mpr rfl, ho⟩
  | .maybe e, ho, w, h, c, hc => by
    rw [MW] at h
    rcases h with rfl | h
    · cases hc
    · exact mw_lets e (by rw [E.ok] at ho; exact ho) w h c hc
  | .many e, ho, w, h, c, hc => by
    rw [MW] at h
    have ih := mw_lets e (by rw [E.ok] at ho; exact ho)
    induction h with
    | nil => cases hc
    | cons h n _ ih2 =>
      rcases List.mem_append.mp hc with hc | hc
      · exact ih _ h c hc
      · exact ih2 hc
  | .join es, ho, w, h, c, hc => by
    rw [MW] at h
    rw [E.ok, oks_eq] at ho
    simp only [Bool.and_eq_true] at ho
    exact mw_letsJ es ho.1.2 w h c hc
  | .alt es, ho, w, h, c, hc => by
    rw [MW] at h
    rw [E.ok, oks_eq] at ho
    simp only [Bool.and_eq_true] at ho
    exact mw_letsA es ho.1.2 w h c hc
theorem mw_letsJ : ∀ (es : List E), es.all E.ok = true → ∀ w, MW.mwJ es w → ∀ c ∈ w, c ∈ E.letters.letterss es ∧ 97 ≤ c ∧ c ≤ 100
  | [], _, w, h, c, hc => by
    rw [MW.mwJ] at h
    subst h
    cases hc
  | e :: es, ho, w, h, c, hc => by
    rw [List.all_cons, Bool.and_eq_true] at ho
    obtain ⟨u, v, rfl, h1, h2⟩ := h
    rw [E.letters.letterss, List.mem_append]
    rcases List.mem_append.mp hc with hc | hc
    · have := mw_lets e ho.1 u h1 c hc
      exact ⟨.inl this.1, this.2⟩
    · have := mw_letsJ es ho.2 v h2 c hc
      exact ⟨.inr this.1, this.2⟩
theorem mw_letsA : ∀ (es : List E), es.all E.ok = true → ∀ w, MW.mwA es w → ∀ c ∈ w, c ∈ E.letters.letterss es ∧ 97 ≤ c ∧ c ≤ 100
  | [], _, w, h, c, hc => h.elim
  | e :: es, ho, w, h, c, hc => by
    rw [List.all_cons, Bool.and_eq_true] at ho
    rw [E.letters.letterss, List.mem_append]
    rcases h with h | h
    · have := mw_lets e ho.1 w h c hc
      exact ⟨.inl this.1, this.2⟩
    · have := mw_letsA es ho.2 w h c hc
      exact ⟨.inr this.1, this.2⟩
end
/-! #### how many words there are -/
def codeW : List Nat → Nat
  | [] => 0
  | c :: w => (c - 96) + 5 * codeW w
theorem codeW_lt : ∀ (w : List Nat), (∀ c ∈ w, 97 ≤ c ∧ c ≤ 100) → codeW w < 5 ^ w.length
  | [], _ => by show 0 < 1; omega
  | c :: w, h => by
    have := codeW_lt w fun x hx => h x (List.mem_cons_of_mem _ hx)
    have := h c (List.mem_cons_self ..)
    show (c - 96) + 5 * codeW w < 5 ^ (w.length + 1)
    rw [Nat.pow_succ]
    omega
theorem codeW_inj : ∀ (u w : List Nat), (∀ c ∈ u, 97 ≤ c ∧ c ≤ 100) → (∀ c ∈ w, 97 ≤ c ∧ c ≤ 100) → codeW u = codeW w → u = w
  | [], [], _, _, _ => rfl
  | [], c :: w, _, h, e => by
    have := h c (List.mem_cons_self ..)
    have e' : 0 = (c - 96) + 5 * codeW w := e
    omega
  | c :: u, [], h, _, e => by
    have := h c (List.mem_cons_self ..)
    have e' : (c - 96) + 5 * codeW u = 0 := e
    omega
  | c :: u, d :: w, h, g, e => by
    have h1 := h c (List.mem_cons_self ..)
    have g1 := g d (List.mem_cons_self ..)
    have e' : (c - 96) + 5 * codeW u = (d - 96) + 5 * codeW w := e
    have e2 : codeW u = codeW w := by omega
    have e3 : c = d := by omega
    rw [e3, codeW_inj u w (fun x hx => h x (List.mem_cons_of_mem _ hx)) (fun x hx => g x (List.mem_cons_of_mem _ hx)) e2]
def LetW (z : Str) : Prop := ∀ c ∈ z.cps.toList, 97 ≤ c ∧ c ≤ 100
theorem words_len {ms : List Str} (nd : ms.Nodup) (hl : ∀ z ∈ ms, z.length ≤ 5) (hc : ∀ z ∈ ms, LetW z) : ms.length ≤ 3125 := by
  have h := nodup_len 3125 (ms.map fun z => ((codeW z.cps.toList : Nat) : Int)) ?_ ?_
  · rw [List.length_map] at h
    exact h
  · refine (List.pairwise_map.mpr (List.Pairwise.imp_of_mem (fun {a b} ha hb hab e => hab ?_) nd))
    have e' : codeW a.cps.toList = codeW b.cps.toList := by exact_mod_cast e
    exact str_ext (codeW_inj _ _ (hc a ha) (hc b hb) e')
  · intro x hx
    obtain ⟨z, hz, rfl⟩ := List.mem_map.mp hx
    have h1 := codeW_lt _ (hc z hz)
    have h2 := hl z hz
    rw [len_cps] at h2
    have h3 : 5 ^ z.cps.toList.length ≤ 5 ^ 5 := Nat.pow_le_pow_right (by decide) h2
    constructor
    · exact Int.ofNat_nonneg _
    · have : codeW z.cps.toList < 3125 := Nat.lt_of_lt_of_le h1 h3
      exact_mod_cast this
/-- the right words of at most so many letters, each once -/
structure WordsOf (L : List Nat → Prop) (most : Nat) (ms : List Str) : Prop where
  nd : ms.Nodup
  mem : ∀ x, x ∈ ms ↔ x.length ≤ most ∧ L x.cps.toList
theorem WordsOf.len {L : List Nat → Prop} {most : Nat} {ms : List Str} (h : WordsOf L most ms) (hm : most ≤ 5) (hL : ∀ w, L w → ∀ c ∈ w, 97 ≤ c ∧ c ≤ 100) : ms.length ≤ 3125 :=
  words_len h.nd (fun z hz => Nat.le_trans ((h.mem z).mp hz).1 hm) fun z hz => hL _ ((h.mem z).mp hz).2
def addA {α : Type} [DecidableEq α] (ms : List α) (x : α) : List α := if x ∈ ms then ms else ms ++ [x]
theorem mem_addA {α : Type} [DecidableEq α] {ms : List α} {x y : α} : y ∈ addA ms x ↔ y ∈ ms ∨ y = x := by
  unfold addA
  split
  · rename_i h
    constructor
    · exact .inl
    · rintro (c | rfl)
      · exact c
      · exact h
  · rw [List.mem_append, List.mem_singleton]
theorem nodup_addA {α : Type} [DecidableEq α] {ms : List α} {x : α} (h : ms.Nodup) : (addA ms x).Nodup := by
  unfold addA
  split
  · exact h
  · rename_i c
    rw [List.nodup_append]
    exact ⟨h, by simp, fun a ha b hb e => c (by rw [List.mem_singleton] at hb; rw [← hb, ← e]; exact ha)⟩
theorem len_addA {α : Type} [DecidableEq α] (ms : List α) (x : α) : (addA ms x).length ≤ ms.length + 1 := by
  unfold addA
  split
  · omega
  · rw [List.length_append]; exact Nat.le_refl _
def keysS (ms : List Str) : List (Key × V) := ms.map fun x => (Sum.inr x, V.bl true)
theorem putK_keysS (ms : List Str) (x : Str) : putK (keysS ms) (Sum.inr x : Key) (V.bl true) = keysS (addA ms x) := by
  unfold putK keysS addA
  have e1 : ((ms.map fun x => ((Sum.inr x : Key), V.bl true)).any fun kv => decide (kv.1 = Sum.inr x)) = decide (x ∈ ms) := by
    induction ms with
    | nil => simp
    | cons m ms ih =>
      rw [List.map_cons, List.any_cons, ih]
      by_cases c : m = x
      · subst c
        simp
      · have : ¬ ((Sum.inr m : Key) = Sum.inr x) := fun h => c (Sum.inr.inj h)
        rw [decide_eq_false this, Bool.false_or]
        by_cases d : x ∈ ms
        · rw [decide_eq_true d, decide_eq_true (List.mem_cons_of_mem _ d)]
        · rw [decide_eq_false d, decide_eq_false]
          intro h
          rcases List.mem_cons.mp h with h | h
          · exact c h.symm
          · exact d h
  rw [e1]
  by_cases c : x ∈ ms
  · rw [if_pos (decide_eq_true c), if_pos c, List.map_map]
    refine List.map_congr_left fun y _ => ?_
    show (if (Sum.inr y : Key) = Sum.inr x then ((Sum.inr y : Key), V.bl true) else ((Sum.inr y : Key), V.bl true)) = _
    split <;> rfl
  · rw [if_neg (by rw [decide_eq_false c]; exact Bool.false_ne_true), if_neg c, List.map_append]
    rfl
theorem keysS_vals (ms : List Str) : (keysS ms).map (fun kv => kV kv.1) = ms.map V.str := by
  unfold keysS
  rw [List.map_map]
  rfl
theorem keysS_len (ms : List Str) : (keysS ms).length = ms.length := List.length_map _
end My
namespace My
open PySem PySem.Spec PyProof.Rows L2
/-! ### numbers by first occurrence -/
section
variable {α β : Type} [DecidableEq α] [DecidableEq β]
def firstsL (ks : List α) : List α := ks.foldl addA []
theorem firstsL_snoc (ks : List α) (k : α) : firstsL (ks ++ [k]) = addA (firstsL ks) k := by
  unfold firstsL
  rw [List.foldl_append]
  rfl
theorem mem_firstsL : ∀ (ks : List α) (x : α), x ∈ firstsL ks ↔ x ∈ ks := by
  have key : ∀ (ks acc : List α) (x : α), x ∈ ks.foldl addA acc ↔ x ∈ acc ∨ x ∈ ks := by
    intro ks
    induction ks with
    | nil => intro acc x; simp
    | cons k ks ih =>
      intro acc x
      rw [List.foldl_cons, ih, mem_addA, List.mem_cons, or_assoc]
  intro ks x
  rw [firstsL, key]
  simp
theorem nodup_firstsL (ks : List α) : (firstsL ks).Nodup := by
  have key : ∀ (ks acc : List α), acc.Nodup → (ks.foldl addA acc).Nodup := by
    intro ks
    induction ks with
    | nil => exact fun acc h => h
    | cons k ks ih => exact fun acc h => ih _ (nodup_addA h)
  exact key ks [] List.nodup_nil
theorem firstsL_len (ks : List α) : (firstsL ks).length ≤ ks.length := by
  have key : ∀ (ks acc : List α), (ks.foldl addA acc).length ≤ acc.length + ks.length := by
    intro ks
    induction ks with
    | nil => exact fun acc => Nat.le_refl _
    | cons k ks ih =>
      intro acc
      have h1 := ih (addA acc k)
      have h2 := len_addA acc k
      rw [List.foldl_cons, List.length_cons]
      omega
  have := key ks []
  rw [List.length_nil, Nat.zero_add] at this
  exact this
theorem firstsL_pre (ks : List α) : ∀ ls : List α, ∃ r, firstsL (ks ++ ls) = firstsL ks ++ r := by
  have key : ∀ (ls acc : List α), ∃ r, ls.foldl addA acc = acc ++ r := by
    intro ls
    induction ls with
    | nil => exact fun acc => ⟨[], (List.append_nil acc).symm⟩
    | cons l ls ih =>
      intro acc
      obtain ⟨r, hr⟩ := ih (addA acc l)
      rw [List.foldl_cons, hr]
      unfold addA
      split
      · exact ⟨r, rfl⟩
      · exact ⟨[l] ++ r, List.append_assoc ..⟩
  intro ls
  unfold firstsL
  rw [List.foldl_append]
  exact key ls _
theorem idxOf_append_mem {xs r : List α} {x : α} (h : x ∈ xs) : (xs ++ r).idxOf x = xs.idxOf x := by
  rw [List.idxOf_append, if_pos h]
theorem idx_pre {ks ls : List α} {x : α} (h : x ∈ ks) : (firstsL (ks ++ ls)).idxOf x = (firstsL ks).idxOf x := by
  obtain ⟨r, hr⟩ := firstsL_pre ks ls
  rw [hr, idxOf_append_mem ((mem_firstsL ks x).mpr h)]
/-- the number of each of the keys -/
def numL (ks : List α) : List Nat := ks.map fun k => (firstsL ks).idxOf k
theorem numL_len (ks : List α) : (numL ks).length = ks.length := List.length_map _
theorem numL_get {ks : List α} {i : Nat} {k : α} (h : ks[i]? = some k) : (numL ks)[i]? = some ((firstsL ks).idxOf k) := by
  unfold numL
  rw [List.getElem?_map, h]
  rfl
theorem numL_get_of {ks : List α} {i m : Nat} (h : (numL ks)[i]? = some m) : ∃ k, ks[i]? = some k ∧ m = (firstsL ks).idxOf k := by
  unfold numL at h
  rw [List.getElem?_map] at h
  obtain ⟨k, h1, h2⟩ := Option.map_eq_some_iff.mp h
  exact ⟨k, h1, h2.symm⟩
theorem idx_inj {xs : List α} {x y : α} (hx : x ∈ xs) (hy : y ∈ xs) (h : xs.idxOf x = xs.idxOf y) : x = y := by
  have h1 := List.getElem_idxOf (List.idxOf_lt_length_of_mem hx)
  have h2 := List.getElem_idxOf (List.idxOf_lt_length_of_mem hy)
  rw [← h1, ← h2]
  congr 1
theorem numL_iff {ks : List α} {i j : Nat} {k l : α} {m n : Nat} (hi : ks[i]? = some k) (hj : ks[j]? = some l) (hm : (numL ks)[i]? = some m) (hn : (numL ks)[j]? = some n) : m = n ↔ k = l := by
  have e1 := Option.some.inj (hm.symm.trans (numL_get hi))
  have e2 := Option.some.inj (hn.symm.trans (numL_get hj))
  rw [e1, e2]
  exact ⟨fun h => idx_inj ((mem_firstsL _ _).mpr (List.mem_of_getElem? hi)) ((mem_firstsL _ _).mpr (List.mem_of_getElem? hj)) h, fun h => by rw [h]⟩
/-- each number comes behind all that are less -/
def RG (a : List Nat) : Prop := ∀ (i m : Nat), a[i]? = some m → ∀ m' < m, ∃ i' < i, a[i']? = some m'
theorem numL_rg (ks : List α) : RG (numL ks) := by
  have key : ∀ (n i : Nat), i ≤ n → ∀ m, (numL ks)[i]? = some m → ∀ m' < m, ∃ i' < i, (numL ks)[i']? = some m' := by
    intro n
    induction n with
    | zero =>
      intro i hi m hm m' hlt
      obtain ⟨k, hk, e⟩ := numL_get_of hm
      have i0 : i = 0 := by omega
      subst i0
      match ks, hk with
      | x :: r, hk =>
        obtain rfl : x = k := Option.some.inj hk
        obtain ⟨r', hr⟩ := firstsL_pre [x] r
        have hr : firstsL (x :: r) = x :: r' := hr
        rw [hr, List.idxOf_cons_self] at e
        omega
    | succ n ih =>
      intro i hi m hm m' hlt
      by_cases c : i ≤ n
      · exact ih i c m hm m' hlt
      · have ie : i = n + 1 := by omega
        subst ie
        obtain ⟨k, hk, e⟩ := numL_get_of hm
        have hkl := (List.getElem?_eq_some_iff.mp hk).1
        have split : ks = ks.take (n + 1) ++ ks.drop (n + 1) := (List.take_append_drop _ _).symm
        by_cases hin : k ∈ ks.take (n + 1)
        · obtain ⟨j, hj⟩ := List.mem_iff_getElem?.mp hin
          have hjl := (List.getElem?_eq_some_iff.mp hj).1
          rw [List.length_take] at hjl
          rw [List.getElem?_take_of_lt (by omega)] at hj
          obtain ⟨i', h1, h2⟩ := ih j (by omega) m (by rw [numL_get hj, e]) m' hlt
          exact ⟨i', by omega, h2⟩
        · have hd : ks.drop (n + 1) = k :: ks.drop (n + 2) := by
            rw [List.drop_eq_getElem_cons hkl]
            congr 1
            exact (List.getElem?_eq_some_iff.mp hk).2
          have hF : firstsL (ks.take (n + 1) ++ [k]) = firstsL (ks.take (n + 1)) ++ [k] := by
            rw [firstsL_snoc]
            unfold addA
            rw [if_neg fun h => hin ((mem_firstsL _ _).mp h)]
          obtain ⟨r, hr⟩ := firstsL_pre (ks.take (n + 1) ++ [k]) (ks.drop (n + 2))
          have hks : ks.take (n + 1) ++ [k] ++ ks.drop (n + 2) = ks := by
            rw [List.append_assoc, List.singleton_append, ← hd]
            exact List.take_append_drop _ _
          rw [hks, hF] at hr
          have em : m = (firstsL (ks.take (n + 1))).length := by
            rw [e, hr, List.append_assoc, List.idxOf_append, if_neg fun h => hin ((mem_firstsL _ _).mp h), List.singleton_append, List.idxOf_cons_self]
            omega
          have hm'l : m' < (firstsL (ks.take (n + 1))).length := by omega
          have hy : (firstsL (ks.take (n + 1)))[m'] ∈ ks.take (n + 1) := (mem_firstsL _ _).mp (List.getElem_mem hm'l)
          obtain ⟨j, hj⟩ := List.mem_iff_getElem?.mp hy
          have hjl := (List.getElem?_eq_some_iff.mp hj).1
          rw [List.length_take] at hjl
          rw [List.getElem?_take_of_lt (by omega)] at hj
          refine ⟨j, by omega, ?_⟩
          rw [numL_get hj, hr, List.append_assoc, idxOf_append_mem (List.getElem_mem hm'l)]
          congr 1
          exact List.Nodup.idxOf_getElem (nodup_firstsL _) _ hm'l
  exact fun i m hm m' hlt => key i i (Nat.le_refl _) m hm m' hlt
/-- two such lists with the same partition are the same -/
theorem rg_eq {a b : List Nat} (ra : RG a) (rb : RG b) (l : a.length = b.length) (h : ∀ (i j m m' n n' : Nat), a[i]? = some m → a[j]? = some m' → b[i]? = some n → b[j]? = some n' → (m = m' ↔ n = n')) : a = b := by
  have key : ∀ i : Nat, a[i]? = b[i]? := by
    intro i
    induction i using Nat.strongRecOn with
    | ind i ih =>
      by_cases hi : i < a.length
      · have ha : a[i]? = some a[i] := List.getElem?_eq_getElem hi
        have hb : b[i]? = some b[i] := List.getElem?_eq_getElem (by omega)
        generalize a[i] = x at ha
        generalize b[i] = y at hb
        rw [ha, hb]
        congr 1
        rcases Nat.lt_trichotomy x y with c | c | c
        · obtain ⟨j, hj, hbj⟩ := rb i y hb x c
          have haj := (ih j hj).trans hbj
          have := (h i j x x y x ha haj hb hbj).mp rfl
          omega
        · exact c
        · obtain ⟨j, hj, haj⟩ := ra i x ha y c
          have hbj := (ih j hj).symm.trans haj
          have := (h i j x y y y ha haj hb hbj).mpr rfl
          omega
      · rw [List.getElem?_eq_none (by omega), List.getElem?_eq_none (by omega)]
  exact List.ext_getElem? key
/-- how many pairs have the same number -/
def sameP (a : List Nat) : Nat := ((List.range a.length).map fun (i : Nat) => (List.range a.length).countP fun (j : Nat) => decide (a[i]? = a[j]?)).sum
theorem sum_le_map {γ : Type} {f g : γ → Nat} : ∀ {l : List γ}, (∀ x ∈ l, f x ≤ g x) → (l.map f).sum ≤ (l.map g).sum
  | [], _ => Nat.le_refl _
  | x :: l, h => by
    have h1 := h x (List.mem_cons_self ..)
    have h2 := sum_le_map (l := l) fun y hy => h y (List.mem_cons_of_mem _ hy)
    rw [List.map_cons, List.sum_cons, List.map_cons, List.sum_cons]
    omega
theorem sum_lt_map {γ : Type} {f g : γ → Nat} {y : γ} : ∀ {l : List γ}, (∀ x ∈ l, f x ≤ g x) → y ∈ l → f y < g y → (l.map f).sum < (l.map g).sum
  | x :: l, h, hy, hlt => by
    have h1 := h x (List.mem_cons_self ..)
    rw [List.map_cons, List.sum_cons, List.map_cons, List.sum_cons]
    rcases List.mem_cons.mp hy with rfl | hy
    · have h2 := sum_le_map (l := l) fun z hz => h z (List.mem_cons_of_mem _ hz)
      omega
    · have h2 := sum_lt_map (l := l) (fun z hz => h z (List.mem_cons_of_mem _ hz)) hy hlt
      omega
theorem countP_lt {γ : Type} {p q : γ → Bool} {y : γ} : ∀ {l : List γ}, (∀ x ∈ l, p x = true → q x = true) → y ∈ l → p y = false → q y = true → l.countP p < l.countP q
  | x :: l, h, hy, hp, hq => by
    rw [List.countP_cons, List.countP_cons]
    have hx := h x (List.mem_cons_self ..)
    rcases List.mem_cons.mp hy with rfl | hy
    · have h2 := List.countP_mono_left (l := l) (p := p) (q := q) fun z hz => h z (List.mem_cons_of_mem _ hz)
      rw [hp, hq]
      simp
      omega
    · have h2 := countP_lt (l := l) (fun z hz => h z (List.mem_cons_of_mem _ hz)) hy hp hq
      cases hpx : p x
      · cases hqx : q x <;> simp <;> omega
      · rw [hx hpx]
        simp
        omega
theorem sameP_lt {a b : List Nat} (ra : RG a) (rb : RG b) (l : a.length = b.length) (h : ∀ i j : Nat, i < a.length → j < a.length → b[i]? = b[j]? → a[i]? = a[j]?) (ne : b ≠ a) : sameP b < sameP a := by
  have hex : ∃ i j : Nat, i < a.length ∧ j < a.length ∧ a[i]? = a[j]? ∧ ¬ b[i]? = b[j]? := by
    refine Classical.byContradiction fun c => ne ?_
    refine (rg_eq ra rb l fun i j m m' n n' h1 h2 h3 h4 => ?_).symm
    have hi := (List.getElem?_eq_some_iff.mp h1).1
    have hj := (List.getElem?_eq_some_iff.mp h2).1
    constructor
    · intro e
      have e1 : a[i]? = a[j]? := by rw [h1, h2, e]
      have e2 : b[i]? = b[j]? := Classical.byContradiction fun d => c ⟨i, j, hi, hj, e1, d⟩
      rw [h3, h4] at e2
      exact Option.some.inj e2
    · intro e
      have e2 : b[i]? = b[j]? := by rw [h3, h4, e]
      have e1 := h i j hi hj e2
      rw [h1, h2] at e1
      exact Option.some.inj e1
  obtain ⟨i, j, hi, hj, ha, hb⟩ := hex
  unfold sameP
  rw [← l]
  refine sum_lt_map (y := i) (fun x hx => List.countP_mono_left fun y hy c => ?_) (List.mem_range.mpr hi) (countP_lt (y := j) (fun y hy c => ?_) (List.mem_range.mpr hj) (decide_eq_false hb) (decide_eq_true ha))
  · exact decide_eq_true (h x y (List.mem_range.mp hx) (List.mem_range.mp hy) (of_decide_eq_true c))
  · exact decide_eq_true (h i y hi (List.mem_range.mp hy) (of_decide_eq_true c))
end
end My
namespace My
open PySem PySem.Spec PyProof.Rows L2
/-! ### turned and renamed -/
def turnE : E → E
  | .eps => .eps
  | .sym c => .sym c
  | .maybe e => .maybe (turnE e)
  | .many e => .many (turnE e)
  | .join es => .join (turns es)
  | .alt es => .alt (turns es)
where turns : List E → List E
  | [] => []
  | e :: es => turns es ++ [turnE e]
theorem turns_eq (es : List E) : turnE.turns es = (es.map turnE).reverse := by
  induction es with
  | nil => rfl
  | cons e es ih => rw [turnE.turns, ih, List.map_cons, List.reverse_cons]
def renE (f : Nat → Nat) : E → E
  | .eps => .eps
  | .sym c => .sym (f c)
  | .maybe e => .maybe (renE f e)
  | .many e => .many (renE f e)
  | .join es => .join (rens es)
  | .alt es => .alt (rens es)
where rens : List E → List E
  | [] => []
  | e :: es => renE f e :: rens es
theorem rens_eq (f : Nat → Nat) (es : List E) : renE.rens f es = es.map (renE f) := by
  induction es with
  | nil => rfl
  | cons e es ih => rw [renE.rens, ih, List.map_cons]
theorem turn_kids (e : E) : (turnE e).kids = (e.kids.map turnE).reverse := by
  cases e <;> simp [turnE, E.kids, turns_eq]
theorem ren_kids (f : Nat → Nat) (e : E) : (renE f e).kids = e.kids.map (renE f) := by
  cases e <;> simp [renE, E.kids, rens_eq]
/-- induction over an expression and those directly in it -/
theorem E.ind {Pr : E → Prop} (h : ∀ e, (∀ k ∈ e.kids, Pr k) → Pr e) : ∀ e, Pr e := by
  have A : ∀ n (e : E), e.parts ≤ n → Pr e := by
    intro n
    induction n with
    | zero =>
      intro e hn
      have := parts_pos e
      omega
    | succ n ih =>
      intro e hn
      refine h e fun k hk => ih k ?_
      have hp := parts_kids e
      have : k.parts ≤ (e.kids.map E.parts).sum := by
        generalize e.kids = l at hk
        induction l with
        | nil => cases hk
        | cons a l ih =>
          rw [List.map_cons, List.sum_cons]
          rcases List.mem_cons.mp hk with rfl | hk
          · omega
          · have := ih hk
            omega
      omega
  exact fun e => A e.parts e (Nat.le_refl _)
theorem sum_map_eq {α : Type} (f g : α → Nat) (l : List α) (h : ∀ x ∈ l, f x = g x) : (l.map f).sum = (l.map g).sum := by
  rw [List.map_congr_left h]
theorem depths_ge {es : List E} {k : E} (h : k ∈ es) : k.depth ≤ E.depth.depths es := by
  induction es with
  | nil => cases h
  | cons e es ih =>
    rw [E.depth.depths]
    rcases List.mem_cons.mp h with rfl | h
    · exact Nat.le_max_left _ _
    · exact Nat.le_trans (ih h) (Nat.le_max_right _ _)
theorem turn_sizes : ∀ e : E, (turnE e).places = e.places ∧ (turnE e).parts = e.parts ∧ (turnE e).depth = e.depth := by
  refine E.ind fun e ih => ?_
  have h1 := places_kids (turnE e)
  have h2 := parts_kids (turnE e)
  rw [turn_kids, List.map_reverse, List.sum_reverse, List.map_map] at h1 h2
  have p : (e.kids.map (E.places ∘ turnE)).sum = (e.kids.map E.places).sum := sum_map_eq _ _ _ fun k hk => (ih k hk).1
  have q : (e.kids.map (E.parts ∘ turnE)).sum = (e.kids.map E.parts).sum := sum_map_eq _ _ _ fun k hk => (ih k hk).2.1
  rw [p] at h1
  rw [q] at h2
  have o : (turnE e).own = e.own := by cases e <;> rfl
  refine ⟨by rw [h1, o, ← places_kids], by rw [h2, ← parts_kids], ?_⟩
  have d : ∀ es : List E, (∀ k ∈ es, (turnE k).depth = k.depth) → E.depth.depths ((es.map turnE).reverse) = E.depth.depths es := by
    intro es hes
    refine Nat.le_antisymm (depths_le fun k hk => ?_) (depths_le fun k hk => ?_)
    · rw [List.mem_reverse, List.mem_map] at hk
      obtain ⟨x, hx, rfl⟩ := hk
      rw [hes x hx]
      exact depths_ge hx
    · have : turnE k ∈ (es.map turnE).reverse := List.mem_reverse.mpr (List.mem_map.mpr ⟨k, hk, rfl⟩)
      have := depths_ge this
      rw [hes k hk] at this
      exact this
  cases e with
  | eps => rfl
  | sym c => rfl
  | maybe k =>
    have := (ih k (List.mem_singleton.mpr rfl)).2.2
    rw [turnE, E.depth, E.depth, this]
  | many k =>
    have := (ih k (List.mem_singleton.mpr rfl)).2.2
    rw [turnE, E.depth, E.depth, this]
  | join es => rw [turnE, turns_eq, E.depth, E.depth, d es fun k hk => (ih k hk).2.2]
  | alt es => rw [turnE, turns_eq, E.depth, E.depth, d es fun k hk => (ih k hk).2.2]
theorem isJoin_turn (e : E) : isJoin (turnE e) = isJoin e := by cases e <;> rfl
theorem isAlt_turn (e : E) : isAlt (turnE e) = isAlt e := by cases e <;> rfl
theorem any_congr {α : Type} {p q : α → Bool} (l : List α) (h : ∀ x ∈ l, p x = q x) : l.any p = l.any q := by
  induction l with
  | nil => rfl
  | cons a l ih => rw [List.any_cons, List.any_cons, h a (List.mem_cons_self ..), ih fun x hx => h x (List.mem_cons_of_mem _ hx)]
theorem turn_ok : ∀ e : E, e.ok = true → (turnE e).ok = true := by
  refine E.ind fun e ih ho => ?_
  have hk := ok_kids ho
  have row : ∀ (p : E → Bool) (es : List E), (∀ e, p (turnE e) = p e) → (∀ k ∈ es, (turnE k).ok = true) → (decide (2 ≤ es.length) && E.ok.oks es && !(es.any p)) = true → (decide (2 ≤ ((es.map turnE).reverse).length) && E.ok.oks ((es.map turnE).reverse) && !(((es.map turnE).reverse).any p)) = true := by
    intro p es hp hes h
    rw [oks_eq] at h ⊢
    simp only [Bool.and_eq_true, decide_eq_true_eq, List.all_eq_true] at h ⊢
    refine ⟨⟨by rw [List.length_reverse, List.length_map]; exact h.1.1, fun x hx => ?_⟩, ?_⟩
    · rw [List.mem_reverse, List.mem_map] at hx
      obtain ⟨k, hk, rfl⟩ := hx
      exact hes k hk
    · rw [List.any_reverse, List.any_map]
      have : es.any (p ∘ turnE) = es.any p := any_congr es fun x _ => hp x
      rw [this]
      exact h.2
  cases e with
  | eps => rfl
  | sym c => exact ho
  | maybe k =>
    rw [turnE, E.ok]
    exact ih k (List.mem_singleton.mpr rfl) (hk k (List.mem_singleton.mpr rfl))
  | many k =>
    rw [turnE, E.ok]
    exact ih k (List.mem_singleton.mpr rfl) (hk k (List.mem_singleton.mpr rfl))
  | join es =>
    rw [E.ok] at ho
    rw [turnE, turns_eq, E.ok]
    exact row isJoin es isJoin_turn (fun k h => ih k h (hk k h)) ho
  | alt es =>
    rw [E.ok] at ho
    rw [turnE, turns_eq, E.ok]
    exact row isAlt es isAlt_turn (fun k h => ih k h (hk k h)) ho
theorem turn_turn : ∀ e : E, turnE (turnE e) = e := by
  refine E.ind fun e ih => ?_
  have row : ∀ es : List E, (∀ k ∈ es, turnE (turnE k) = k) → (((es.map turnE).reverse).map turnE).reverse = es := by
    intro es h
    rw [List.map_reverse, List.reverse_reverse, List.map_map]
    have : es.map (turnE ∘ turnE) = es.map id := List.map_congr_left h
    rw [this, List.map_id]
  cases e with
  | eps => rfl
  | sym c => rfl
  | maybe k => rw [turnE, turnE, ih k (List.mem_singleton.mpr rfl)]
  | many k => rw [turnE, turnE, ih k (List.mem_singleton.mpr rfl)]
  | join es => rw [turnE, turnE, turns_eq, turns_eq, row es ih]
  | alt es => rw [turnE, turnE, turns_eq, turns_eq, row es ih]
/-- the turned one matches the words read from the end -/
theorem star_rev {L M : List Nat → Prop} (h : ∀ w, L w ↔ M w.reverse) {w : List Nat} (s : Star L w) : Star M w.reverse := by
  induction s with
  | nil => exact .nil
  | cons hu n _ ih =>
    rw [List.reverse_append]
    exact star_snoc ih ((h _).mp hu)
theorem mw_turn : ∀ (e : E) (w : List Nat), MW (turnE e) w ↔ MW e w.reverse := by
  refine E.ind fun e ih => ?_
  cases e with
  | eps =>
    intro w
    show w = [] ↔ w.reverse = []
    rw [List.reverse_eq_nil_iff]
  | sym c =>
    intro w
    rw [turnE, MW]
    constructor
    · rintro rfl
      rfl
    · intro h
      have := congrArg List.reverse h
      rw [List.reverse_reverse] at this
      exact this
  | maybe k =>
    intro w
    rw [turnE, MW, MW, List.reverse_eq_nil_iff, ih k (List.mem_singleton.mpr rfl)]
  | many k =>
    intro w
    have hk := ih k (List.mem_singleton.mpr rfl)
    rw [turnE, MW, MW]
    constructor
    · exact fun s => star_rev hk s
    · intro s
      have := star_rev (L := MW k) (M := MW (turnE k)) (fun u => by rw [hk, List.reverse_reverse]) s
      rw [List.reverse_reverse] at this
      exact this
  | join es =>
    have row : ∀ es : List E, (∀ k ∈ es, ∀ w, MW (turnE k) w ↔ MW k w.reverse) → ∀ w, MW.mwJ ((es.map turnE).reverse) w ↔ MW.mwJ es w.reverse := by
      intro es
      induction es with
      | nil =>
        intro _ w
        show w = [] ↔ w.reverse = []
        rw [List.reverse_eq_nil_iff]
      | cons a es ih2 =>
        intro h w
        rw [List.map_cons, List.reverse_cons, mwJ_snoc]
        have hr := ih2 fun k hk => h k (List.mem_cons_of_mem _ hk)
        have ha := h a (List.mem_cons_self ..)
        constructor
        · rintro ⟨u, v, rfl, h1, h2⟩
          exact ⟨v.reverse, u.reverse, List.reverse_append, (ha v).mp h2, (hr u).mp h1⟩
        · rintro ⟨u, v, e, h1, h2⟩
          refine ⟨v.reverse, u.reverse, ?_, (hr _).mpr (by rw [List.reverse_reverse]; exact h2), (ha _).mpr (by rw [List.reverse_reverse]; exact h1)⟩
          have := congrArg List.reverse e
          rw [List.reverse_reverse, List.reverse_append] at this
          exact this
    intro w
    rw [turnE, turns_eq, MW, MW]
    exact row es ih w
  | alt es =>
    intro w
    rw [turnE, turns_eq, MW, MW, mwA_iff, mwA_iff]
    constructor
    · rintro ⟨x, hx, h⟩
      rw [List.mem_reverse, List.mem_map] at hx
      obtain ⟨k, hk, rfl⟩ := hx
      exact ⟨k, hk, (ih k hk w).mp h⟩
    · rintro ⟨k, hk, h⟩
      exact ⟨turnE k, List.mem_reverse.mpr (List.mem_map.mpr ⟨k, hk, rfl⟩), (ih k hk w).mpr h⟩
/-! #### renamed -/
theorem ren_sizes (f : Nat → Nat) : ∀ e : E, (renE f e).places = e.places ∧ (renE f e).parts = e.parts ∧ (renE f e).depth = e.depth := by
  refine E.ind fun e ih => ?_
  have h1 := places_kids (renE f e)
  have h2 := parts_kids (renE f e)
  rw [ren_kids, List.map_map] at h1 h2
  have p : (e.kids.map (E.places ∘ renE f)).sum = (e.kids.map E.places).sum := sum_map_eq _ _ _ fun k hk => (ih k hk).1
  have q : (e.kids.map (E.parts ∘ renE f)).sum = (e.kids.map E.parts).sum := sum_map_eq _ _ _ fun k hk => (ih k hk).2.1
  rw [p] at h1
  rw [q] at h2
  have o : (renE f e).own = e.own := by cases e <;> rfl
  refine ⟨by rw [h1, o, ← places_kids], by rw [h2, ← parts_kids], ?_⟩
  have d : ∀ es : List E, (∀ k ∈ es, (renE f k).depth = k.depth) → E.depth.depths (es.map (renE f)) = E.depth.depths es := by
    intro es hes
    refine Nat.le_antisymm (depths_le fun k hk => ?_) (depths_le fun k hk => ?_)
    · rw [List.mem_map] at hk
      obtain ⟨x, hx, rfl⟩ := hk
      rw [hes x hx]
      exact depths_ge hx
    · have := depths_ge (List.mem_map.mpr ⟨k, hk, rfl⟩ : renE f k ∈ es.map (renE f))
      rw [hes k hk] at this
      exact this
  cases e with
  | eps => rfl
  | sym c => rfl
  | maybe k =>
    have := (ih k (List.mem_singleton.mpr rfl)).2.2
    rw [renE, E.depth, E.depth, this]
  | many k =>
    have := (ih k (List.mem_singleton.mpr rfl)).2.2
    rw [renE, E.depth, E.depth, this]
  | join es => rw [renE, rens_eq, E.depth, E.depth, d es fun k hk => (ih k hk).2.2]
  | alt es => rw [renE, rens_eq, E.depth, E.depth, d es fun k hk => (ih k hk).2.2]
theorem isJoin_ren (f : Nat → Nat) (e : E) : isJoin (renE f e) = isJoin e := by cases e <;> rfl
theorem isAlt_ren (f : Nat → Nat) (e : E) : isAlt (renE f e) = isAlt e := by cases e <;> rfl
theorem ren_ok (f : Nat → Nat) (hf : ∀ c, 97 ≤ c ∧ c ≤ 100 → 97 ≤ f c ∧ f c ≤ 100) : ∀ e : E, e.ok = true → (renE f e).ok = true := by
  refine E.ind fun e ih ho => ?_
  have hk := ok_kids ho
  have row : ∀ (p : E → Bool) (es : List E), (∀ e, p (renE f e) = p e) → (∀ k ∈ es, (renE f k).ok = true) → (decide (2 ≤ es.length) && E.ok.oks es && !(es.any p)) = true → (decide (2 ≤ (es.map (renE f)).length) && E.ok.oks (es.map (renE f)) && !((es.map (renE f)).any p)) = true := by
    intro p es hp hes h
    rw [oks_eq] at h ⊢
    simp only [Bool.and_eq_true, decide_eq_true_eq, List.all_eq_true] at h ⊢
    refine ⟨⟨by rw [List.length_map]; exact h.1.1, fun x hx => ?_⟩, ?_⟩
    · rw [List.mem_map] at hx
      obtain ⟨k, hk, rfl⟩ := hx
      exact hes k hk
    · rw [List.any_map]
      have : es.any (p ∘ renE f) = es.any p := any_congr es fun x _ => hp x
      rw [this]
      exact h.2
  cases e with
  | eps => rfl
  | sym c =>
    rw [E.ok] at ho
    simp only [Bool.and_eq_true, decide_eq_true_eq] at ho
    rw [renE, E.ok]
    simp only [Bool.and_eq_true, decide_eq_true_eq]
    exact hf c ho
  | maybe k =>
    rw [renE, E.ok]
    exact ih k (List.mem_singleton.mpr rfl) (hk k (List.mem_singleton.mpr rfl))
  | many k =>
    rw [renE, E.ok]
    exact ih k (List.mem_singleton.mpr rfl) (hk k (List.mem_singleton.mpr rfl))
  | join es =>
    rw [E.ok] at ho
    rw [renE, rens_eq, E.ok]
    exact row isJoin es (isJoin_ren f) (fun k h => ih k h (hk k h)) ho
  | alt es =>
    rw [E.ok] at ho
    rw [renE, rens_eq, E.ok]
    exact row isAlt es (isAlt_ren f) (fun k h => ih k h (hk k h)) ho
theorem mw_ren (f : Nat → Nat) : ∀ (e : E) (w : List Nat), MW e w → MW (renE f e) (w.map f) := by
  refine E.ind fun e ih => ?_
  cases e with
  | eps =>
    intro w h
    rw [MW] at h
    subst h
    rfl
  | sym c =>
    intro w h
    rw [MW] at h
    subst h
    rfl
  | maybe k =>
    intro w h
    rw [renE, MW]
    rw [MW] at h
    rcases h with rfl | h
    · exact .inl rfl
    · exact .inr (ih k (List.mem_singleton.mpr rfl) w h)
  | many k =>
    intro w h
    rw [renE, MW]
    rw [MW] at h
    induction h with
    | nil => exact .nil
    | cons hu n _ ih2 =>
      rw [List.map_append]
      refine .cons (ih k (List.mem_singleton.mpr rfl) _ hu) (fun c => n ?_) ih2
      exact List.map_eq_nil_iff.mp c
  | join es =>
    have row : ∀ es : List E, (∀ k ∈ es, ∀ w, MW k w → MW (renE f k) (w.map f)) → ∀ w, MW.mwJ es w → MW.mwJ (es.map (renE f)) (w.map f) := by
      intro es
      induction es with
      | nil =>
        intro _ w h
        have h' : w = [] := h
        subst h'
        rfl
      | cons a es ih2 =>
        rintro h w ⟨u, v, rfl, h1, h2⟩
        exact ⟨u.map f, v.map f, List.map_append, h a (List.mem_cons_self ..) u h1, ih2 (fun k hk => h k (List.mem_cons_of_mem _ hk)) v h2⟩
    intro w h
    rw [renE, rens_eq, MW]
    rw [MW] at h
    exact row es ih w h
  | alt es =>
    intro w h
    rw [renE, rens_eq, MW, mwA_iff]
    rw [MW, mwA_iff] at h
    obtain ⟨k, hk, h⟩ := h
    exact ⟨renE f k, List.mem_map.mpr ⟨k, hk, rfl⟩, ih k hk w h⟩
theorem ren_ren (f g : Nat → Nat) (hg : ∀ c, 97 ≤ c ∧ c ≤ 100 → g (f c) = c) : ∀ e : E, e.ok = true → renE g (renE f e) = e := by
  refine E.ind fun e ih ho => ?_
  have hk := ok_kids ho
  have row : ∀ es : List E, (∀ k ∈ es, renE g (renE f k) = k) → (es.map (renE f)).map (renE g) = es := by
    intro es h
    rw [List.map_map]
    have : es.map (renE g ∘ renE f) = es.map id := List.map_congr_left h
    rw [this, List.map_id]
  cases e with
  | eps => rfl
  | sym c =>
    rw [E.ok] at ho
    simp only [Bool.and_eq_true, decide_eq_true_eq] at ho
    rw [renE, renE, hg c ho]
  | maybe k => rw [renE, renE, ih k (List.mem_singleton.mpr rfl) (hk k (List.mem_singleton.mpr rfl))]
  | many k => rw [renE, renE, ih k (List.mem_singleton.mpr rfl) (hk k (List.mem_singleton.mpr rfl))]
  | join es => rw [renE, renE, rens_eq, rens_eq, row es fun k h => ih k h (hk k h)]
  | alt es => rw [renE, renE, rens_eq, rens_eq, row es fun k h => ih k h (hk k h)]
theorem mw_ren_iff (f g : Nat → Nat) (hg : ∀ c, 97 ≤ c ∧ c ≤ 100 → g (f c) = c) {e : E} (ho : e.ok = true) {w : List Nat} (hw : ∀ c ∈ w, 97 ≤ c ∧ c ≤ 100) : MW (renE f e) (w.map f) ↔ MW e w := by
  refine ⟨fun h => ?_, mw_ren f e w⟩
  have := mw_ren g _ _ h
  rw [ren_ren f g hg e ho, List.map_map] at this
  have e1 : w.map (g ∘ f) = w.map id := List.map_congr_left fun c hc => hg c (hw c hc)
  rw [e1, List.map_id] at this
  exact this
end My
namespace My
open PySem PySem.Spec PyProof.Rows L2
/-! ### the places of a turned expression -/
structure Mir (g g' : Gl) (s : Nat) : Prop where
  nul : g'.nul = g.nul
  fst : ∀ p, p ∈ g'.fst ↔ ∃ q ∈ g.lst, p + q + 1 = s
  lst : ∀ p, p ∈ g'.lst ↔ ∃ q ∈ g.fst, p + q + 1 = s
  fol : ∀ p q, (p, q) ∈ g'.fol ↔ ∃ p' q', (q', p') ∈ g.fol ∧ p + p' + 1 = s ∧ q + q' + 1 = s
theorem Mir.eqv {g g' h : Gl} {s : Nat} (m : Mir g g' s) (e : Eqv h g') : Mir g h s where
  nul := e.nul.trans m.nul
  fst p := by rw [e.fst]; exact m.fst p
  lst p := by rw [e.lst]; exact m.lst p
  fol p q := by rw [e.fol]; exact m.fol p q
theorem Mir.seq {a a' b b' : Gl} {s : Nat} (x : Mir a a' s) (y : Mir b b' s) : Mir (a.seq b) (b'.seq a') s where
  nul := by
    show (b'.nul && a'.nul) = (a.nul && b.nul)
    rw [x.nul, y.nul, Bool.and_comm]
  fst p := by
    show p ∈ b'.fst ++ (if b'.nul = true then a'.fst else []) ↔ ∃ q ∈ (if b.nul = true then a.lst else []) ++ b.lst, p + q + 1 = s
    rw [List.mem_append, y.fst, y.nul]
    constructor
    · rintro (⟨q, h, e⟩ | h)
      · exact ⟨q, List.mem_append_right _ h, e⟩
      · split at h
        · rename_i c
          obtain ⟨q, h, e⟩ := (x.fst p).mp h
          exact ⟨q, List.mem_append_left _ (by rw [if_pos c]; exact h), e⟩
        · cases h
    · rintro ⟨q, h, e⟩
      rcases List.mem_append.mp h with h | h
      · split at h
        · rename_i c
          refine .inr ?_
          rw [if_pos c]
          exact (x.fst p).mpr ⟨q, h, e⟩
        · cases h
      · exact .inl ⟨q, h, e⟩
  lst p := by
    show p ∈ (if a'.nul = true then b'.lst else []) ++ a'.lst ↔ ∃ q ∈ a.fst ++ (if a.nul = true then b.fst else []), p + q + 1 = s
    rw [List.mem_append, x.lst, x.nul]
    constructor
    · rintro (h | ⟨q, h, e⟩)
      · split at h
        · rename_i c
          obtain ⟨q, h, e⟩ := (y.lst p).mp h
          exact ⟨q, List.mem_append_right _ (by rw [if_pos c]; exact h), e⟩
        · cases h
      · exact ⟨q, List.mem_append_left _ h, e⟩
    · rintro ⟨q, h, e⟩
      rcases List.mem_append.mp h with h | h
      · exact .inr ⟨q, h, e⟩
      · split at h
        · rename_i c
          refine .inl ?_
          rw [if_pos c]
          exact (y.lst p).mpr ⟨q, h, e⟩
        · cases h
  fol p q := by
    show (p, q) ∈ b'.fol ++ (prodL b'.lst a'.fst ++ a'.fol) ↔ ∃ p' q', (q', p') ∈ a.fol ++ (prodL a.lst b.fst ++ b.fol) ∧ p + p' + 1 = s ∧ q + q' + 1 = s
    rw [List.mem_append, List.mem_append, mem_prodL, y.fol, x.fol, y.lst, x.fst]
    constructor
    · rintro (⟨p', q', h, e1, e2⟩ | ⟨⟨p', h1, e1⟩, q', h2, e2⟩ | ⟨p', q', h, e1, e2⟩)
      · exact ⟨p', q', List.mem_append_right _ (List.mem_append_right _ h), e1, e2⟩
      · exact ⟨p', q', List.mem_append_right _ (List.mem_append_left _ (mem_prodL.mpr ⟨h2, h1⟩)), e1, e2⟩
      · exact ⟨p', q', List.mem_append_left _ h, e1, e2⟩
    · rintro ⟨p', q', h, e1, e2⟩
      rcases List.mem_append.mp h with h | h
      · exact .inr (.inr ⟨p', q', h, e1, e2⟩)
      · rcases List.mem_append.mp h with h | h
        · obtain ⟨h1, h2⟩ := mem_prodL.mp h
          exact .inr (.inl ⟨⟨p', h2, e1⟩, q', h1, e2⟩)
        · exact .inl ⟨p', q', h, e1, e2⟩
theorem Mir.par {a a' b b' : Gl} {s : Nat} (x : Mir a a' s) (y : Mir b b' s) : Mir (a.par b) (b'.par a') s where
  nul := by
    show (b'.nul || a'.nul) = (a.nul || b.nul)
    rw [x.nul, y.nul, Bool.or_comm]
  fst p := by
    show p ∈ b'.fst ++ a'.fst ↔ ∃ q ∈ a.lst ++ b.lst, p + q + 1 = s
    rw [List.mem_append, y.fst, x.fst]
    constructor
    · rintro (⟨q, h, e⟩ | ⟨q, h, e⟩)
      · exact ⟨q, List.mem_append_right _ h, e⟩
      · exact ⟨q, List.mem_append_left _ h, e⟩
    · rintro ⟨q, h, e⟩
      rcases List.mem_append.mp h with h | h
      · exact .inr ⟨q, h, e⟩
      · exact .inl ⟨q, h, e⟩
  lst p := by
    show p ∈ b'.lst ++ a'.lst ↔ ∃ q ∈ a.fst ++ b.fst, p + q + 1 = s
    rw [List.mem_append, y.lst, x.lst]
    constructor
    · rintro (⟨q, h, e⟩ | ⟨q, h, e⟩)
      · exact ⟨q, List.mem_append_right _ h, e⟩
      · exact ⟨q, List.mem_append_left _ h, e⟩
    · rintro ⟨q, h, e⟩
      rcases List.mem_append.mp h with h | h
      · exact .inr ⟨q, h, e⟩
      · exact .inl ⟨q, h, e⟩
  fol p q := by
    show (p, q) ∈ b'.fol ++ a'.fol ↔ ∃ p' q', (q', p') ∈ a.fol ++ b.fol ∧ p + p' + 1 = s ∧ q + q' + 1 = s
    rw [List.mem_append, y.fol, x.fol]
    constructor
    · rintro (⟨p', q', h, e1, e2⟩ | ⟨p', q', h, e1, e2⟩)
      · exact ⟨p', q', List.mem_append_right _ h, e1, e2⟩
      · exact ⟨p', q', List.mem_append_left _ h, e1, e2⟩
    · rintro ⟨p', q', h, e1, e2⟩
      rcases List.mem_append.mp h with h | h
      · exact .inr ⟨p', q', h, e1, e2⟩
      · exact .inl ⟨p', q', h, e1, e2⟩
theorem turns_places (es : List E) : E.places.placess (turnE.turns es) = E.places.placess es := by
  have h := (turn_sizes (.join es)).1
  rw [turnE, E.places, E.places] at h
  exact h
mutual
theorem gl_turn : ∀ (e : E) (o o' : Nat), Mir (gl e o) (gl (turnE e) o') (o + o' + e.places)
  | .eps, o, o' => by
    rw [turnE]
    exact ⟨rfl, fun p => ⟨(fun h => by cases h), fun ⟨q, h, _⟩ => by cases h⟩, fun p => ⟨(fun h => by cases h), fun ⟨q, h, _⟩ => by cases h⟩, fun p q => ⟨(fun h => by cases h), fun ⟨p', q', h, _⟩ => by cases h⟩⟩
  | .sym c, o, o' => by
    rw [turnE, E.places]
    refine ⟨rfl, fun p => ?_, fun p => ?_, fun p q => ⟨(fun h => by cases h), fun ⟨p', q', h, _⟩ => by cases h⟩⟩ <;>
    · show p ∈ [o'] ↔ ∃ q ∈ [o], p + q + 1 = o + o' + 1
      rw [List.mem_singleton]
      constructor
      · rintro rfl
        exact ⟨o, List.mem_singleton.mpr rfl, by omega⟩
      · rintro ⟨q, h, e⟩
        rw [List.mem_singleton] at h
        omega
  | .maybe e, o, o' => by
    have h := gl_turn e o o'
    rw [turnE, E.places]
    exact ⟨rfl, h.fst, h.lst, h.fol⟩
  | .many e, o, o' => by
    have h := gl_turn e o o'
    rw [turnE, E.places]
    refine ⟨rfl, h.fst, h.lst, fun p q => ?_⟩
    show (p, q) ∈ (gl (turnE e) o').fol ++ prodL (gl (turnE e) o').lst (gl (turnE e) o').fst ↔ ∃ p' q', (q', p') ∈ (gl e o).fol ++ prodL (gl e o).lst (gl e o).fst ∧ p + p' + 1 = _ ∧ q + q' + 1 = _
    rw [List.mem_append, mem_prodL, h.fol, h.lst, h.fst]
    constructor
    · rintro (⟨p', q', hm, e1, e2⟩ | ⟨⟨p', h1, e1⟩, q', h2, e2⟩)
      · exact ⟨p', q', List.mem_append_left _ hm, e1, e2⟩
      · exact ⟨p', q', List.mem_append_right _ (mem_prodL.mpr ⟨h2, h1⟩), e1, e2⟩
    · rintro ⟨p', q', hm, e1, e2⟩
      rcases List.mem_append.mp hm with hm | hm
      · exact .inl ⟨p', q', hm, e1, e2⟩
      · obtain ⟨h1, h2⟩ := mem_prodL.mp hm
        exact .inr ⟨⟨p', h2, e1⟩, q', h1, e2⟩
  | .join es, o, o' => by
    rw [turnE, E.places]
    exact gl_turnJ es o o'
  | .alt es, o, o' => by
    rw [turnE, E.places]
    exact gl_turnA es o o'
theorem gl_turnJ : ∀ (es : List E) (o o' : Nat), Mir (gl.glJ es o) (gl.glJ (turnE.turns es) o') (o + o' + E.places.placess es)
  | [], o, o' => ⟨rfl, fun p => ⟨(fun h => by cases h), fun ⟨q, h, _⟩ => by cases h⟩, fun p => ⟨(fun h => by cases h), fun ⟨q, h, _⟩ => by cases h⟩, fun p q => ⟨(fun h => by cases h), fun ⟨p', q', h, _⟩ => by cases h⟩⟩
  | e :: es, o, o' => by
    have h1 := gl_turn e o (o' + ((turnE.turns es).map E.places).sum)
    have h2 := gl_turnJ es (o + e.places) o'
    have hq := turns_places es
    rw [placess_eq] at hq
    rw [turnE.turns, gl.glJ, E.places.placess]
    have e1 : o + (o' + ((turnE.turns es).map E.places).sum) + e.places = o + o' + (e.places + E.places.placess es) := by omega
    have e2 : o + e.places + o' + E.places.placess es = o + o' + (e.places + E.places.placess es) := by omega
    rw [e1] at h1
    rw [e2] at h2
    exact (h1.seq h2).eqv (glJ_snoc _ _ _)
theorem gl_turnA : ∀ (es : List E) (o o' : Nat), Mir (gl.glA es o) (gl.glA (turnE.turns es) o') (o + o' + E.places.placess es)
  | [], o, o' => ⟨rfl, fun p => ⟨(fun h => by cases h), fun ⟨q, h, _⟩ => by cases h⟩, fun p => ⟨(fun h => by cases h), fun ⟨q, h, _⟩ => by cases h⟩, fun p q => ⟨(fun h => by cases h), fun ⟨p', q', h, _⟩ => by cases h⟩⟩
  | e :: es, o, o' => by
    have h1 := gl_turn e o (o' + ((turnE.turns es).map E.places).sum)
    have h2 := gl_turnA es (o + e.places) o'
    have hq := turns_places es
    rw [placess_eq] at hq
    rw [turnE.turns, gl.glA, E.places.placess, glA_snoc]
    have e1 : o + (o' + ((turnE.turns es).map E.places).sum) + e.places = o + o' + (e.places + E.places.placess es) := by omega
    have e2 : o + e.places + o' + E.places.placess es = o + o' + (e.places + E.places.placess es) := by omega
    rw [e1] at h1
    rw [e2] at h2
    exact h1.par h2
end
/-! #### each place is reached -/
inductive RchE (F : List (Nat × Nat)) (S : List Nat) : Nat → Prop where
  | base {p : Nat} (h : p ∈ S) : RchE F S p
  | step {p q : Nat} (h : RchE F S p) (k : (p, q) ∈ F) : RchE F S q
theorem RchE.mono {F F' : List (Nat × Nat)} {S S' : List Nat} {p : Nat} (h : RchE F S p) (hF : ∀ x ∈ F, x ∈ F') (hS : ∀ q ∈ S, RchE F' S' q) : RchE F' S' p := by
  induction h with
  | base h => exact hS _ h
  | step _ k ih => exact .step ih (hF _ k)
/-- some word: none, or some first and last place -/
def Live (g : Gl) : Prop := g.nul = true ∨ (g.fst ≠ [] ∧ g.lst ≠ [])
theorem Live.seq {a b : Gl} (x : Live a) (y : Live b) : Live (a.seq b) := by
  unfold Live Gl.seq
  rcases x with x | ⟨x1, x2⟩ <;> rcases y with y | ⟨y1, y2⟩
  · exact .inl (by show (a.nul && b.nul) = true; rw [x, y]; rfl)
  · refine .inr ⟨?_, ?_⟩
    · show a.fst ++ (if a.nul = true then b.fst else []) ≠ []
      rw [if_pos x]
      simp [y1]
    · show (if b.nul = true then a.lst else []) ++ b.lst ≠ []
      simp [y2]
  · refine .inr ⟨?_, ?_⟩
    · show a.fst ++ _ ≠ []
      simp [x1]
    · show (if b.nul = true then a.lst else []) ++ b.lst ≠ []
      rw [if_pos y]
      simp [x2]
  · refine .inr ⟨?_, ?_⟩
    · show a.fst ++ _ ≠ []
      simp [x1]
    · show _ ++ b.lst ≠ []
      simp [y2]
theorem Live.par {a b : Gl} (x : Live a) : Live (a.par b) := by
  rcases x with x | ⟨x1, x2⟩
  · exact .inl (by show (a.nul || b.nul) = true; rw [x]; rfl)
  · refine .inr ⟨?_, ?_⟩
    · show a.fst ++ b.fst ≠ []
      simp [x1]
    · show a.lst ++ b.lst ≠ []
      simp [x2]
mutual
theorem gl_live : ∀ (e : E) (o : Nat), e.ok = true → Live (gl e o)
  | .eps, o, _ => .inl rfl
  | .sym c, o, _ => .inr ⟨by show [o] ≠ []; simp, by show [o] ≠ []; simp⟩
  | .maybe e, o, _ => .inl rfl
  | .many e, o, _ => .inl rfl
  | .join es, o, ho => by
    rw [E.ok, oks_eq] at ho
    simp only [Bool.and_eq_true] at ho
    rw [gl]
    exact glJ_live es o ho.1.2
  | .alt es, o, ho => by
    rw [E.ok, oks_eq] at ho
    simp only [Bool.and_eq_true, decide_eq_true_eq] at ho
    rw [gl]
    cases es with
    | nil => exact absurd ho.1.1 (by decide)
    | cons e es =>
      have h := ho.1.2
      rw [List.all_cons, Bool.and_eq_true] at h
      rw [gl.glA]
      exact (gl_live e o h.1).par
theorem glJ_live : ∀ (es : List E) (o : Nat), es.all E.ok = true → Live (gl.glJ es o)
  | [], o, _ => .inl rfl
  | e :: es, o, ho => by
    rw [List.all_cons, Bool.and_eq_true] at ho
    rw [gl.glJ]
    exact (gl_live e o ho.1).seq (glJ_live es _ ho.2)
end
theorem rch_seq {a b : Gl} (la : Live a) {p : Nat} (ra : ∀ l ∈ a.lst, RchE a.fol a.fst l) (h : RchE b.fol b.fst p) : RchE (a.seq b).fol (a.seq b).fst p := by
  refine h.mono (fun x hx => List.mem_append_right _ (List.mem_append_right _ hx)) fun q hq => ?_
  by_cases c : a.nul = true
  · refine .base ?_
    show q ∈ a.fst ++ (if a.nul = true then b.fst else [])
    rw [if_pos c]
    exact List.mem_append_right _ hq
  · rcases la with la | ⟨_, l2⟩
    · exact absurd la c
    · obtain ⟨l, hl⟩ := List.exists_mem_of_ne_nil _ l2
      refine .step (p := l) ((ra l hl).mono (fun x hx => List.mem_append_left _ hx) fun r hr => .base (List.mem_append_left _ hr)) ?_
      exact List.mem_append_right _ (List.mem_append_left _ (mem_prodL.mpr ⟨hl, hq⟩))
mutual
theorem gl_rch : ∀ (e : E) (o : Nat), e.ok = true → ∀ p, o ≤ p → p < o + e.places → RchE (gl e o).fol (gl e o).fst p
  | .eps, o, _, p, h1, h2 => by
    rw [E.places] at h2
    omega
  | .sym c, o, _, p, h1, h2 => by
    rw [E.places] at h2
    have : p = o := by omega
    subst this
    exact .base (List.mem_singleton.mpr rfl)
  | .maybe e, o, ho, p, h1, h2 => by
    rw [E.ok] at ho
    rw [E.places] at h2
    exact gl_rch e o ho p h1 h2
  | .many e, o, ho, p, h1, h2 => by
    rw [E.ok] at ho
    rw [E.places] at h2
    exact (gl_rch e o ho p h1 h2).mono (fun x hx => List.mem_append_left _ hx) fun q hq => .base hq
  | .join es, o, ho, p, h1, h2 => by
    rw [E.ok, oks_eq] at ho
    simp only [Bool.and_eq_true] at ho
    rw [E.places] at h2
    rw [gl]
    exact glJ_rch es o ho.1.2 p h1 h2
  | .alt es, o, ho, p, h1, h2 => by
    rw [E.ok, oks_eq] at ho
    simp only [Bool.and_eq_true] at ho
    rw [E.places] at h2
    rw [gl]
    exact glA_rch es o ho.1.2 p h1 h2
theorem glJ_rch : ∀ (es : List E) (o : Nat), es.all E.ok = true → ∀ p, o ≤ p → p < o + E.places.placess es → RchE (gl.glJ es o).fol (gl.glJ es o).fst p
  | [], o, _, p, h1, h2 => by
    rw [E.places.placess] at h2
    omega
  | e :: es, o, ho, p, h1, h2 => by
    rw [List.all_cons, Bool.and_eq_true] at ho
    rw [E.places.placess] at h2
    rw [gl.glJ]
    by_cases c : p < o + e.places
    · exact (gl_rch e o ho.1 p h1 c).mono (fun x hx => List.mem_append_left _ hx) fun q hq => .base (List.mem_append_left _ hq)
    · refine rch_seq (gl_live e o ho.1) (fun l hl => ?_) (glJ_rch es (o + e.places) ho.2 p (by omega) (by omega))
      have := (gl_within e o).lst l hl
      exact gl_rch e o ho.1 l this.1 this.2
theorem glA_rch : ∀ (es : List E) (o : Nat), es.all E.ok = true → ∀ p, o ≤ p → p < o + E.places.placess es → RchE (gl.glA es o).fol (gl.glA es o).fst p
  | [], o, _, p, h1, h2 => by
    rw [E.places.placess] at h2
    omega
  | e :: es, o, ho, p, h1, h2 => by
    rw [List.all_cons, Bool.and_eq_true] at ho
    rw [E.places.placess] at h2
    rw [gl.glA]
    by_cases c : p < o + e.places
    · exact (gl_rch e o ho.1 p h1 c).mono (fun x hx => List.mem_append_left _ hx) fun q hq => .base (List.mem_append_left _ hq)
    · exact (glA_rch es (o + e.places) ho.2 p (by omega) (by omega)).mono (fun x hx => List.mem_append_right _ hx) fun q hq => .base (List.mem_append_right _ hq)
end
/-- each place leads to a last one -/
theorem gl_lead {e : E} (ho : e.ok = true) {p : Nat} (hp : p < e.places) : RchE ((gl e 0).fol.map fun x => (x.2, x.1)) (gl e 0).lst p := by
  have m := gl_turn e 0 0
  rw [Nat.zero_add] at m
  have hs := (turn_sizes e).1
  have h := gl_rch (turnE e) 0 (turn_ok e ho) (e.places - 1 - p) (Nat.zero_le _) (by omega)
  have key : ∀ q, RchE (gl (turnE e) 0).fol (gl (turnE e) 0).fst q → ∀ p, q + p + 1 = e.places → RchE ((gl e 0).fol.map fun x => (x.2, x.1)) (gl e 0).lst p := by
    intro q hq
    induction hq with
    | base hb =>
      intro p e1
      obtain ⟨r, hr, e2⟩ := (m.fst _).mp hb
      have : r = p := by omega
      subst this
      exact .base hr
    | @step a b _ k ih =>
      intro p e1
      obtain ⟨a', b', hm, e2, e3⟩ := (m.fol _ _).mp k
      have : b' = p := by omega
      subst this
      exact .step (ih a' e2) (List.mem_map.mpr ⟨(b', a'), hm, rfl⟩)
  exact key _ h p (by omega)
end My
namespace My
open PySem PySem.Spec PyProof.Rows L2
/-! ### the automaton over sets of places -/
def nrS (e : E) (S : List Nat) : List Nat := if S = [] then (gl e 0).fst else (List.range e.places).filter fun y => S.any fun x => decide ((x, y) ∈ (gl e 0).fol)
def stS (e : E) (S : List Nat) (c : Nat) : List Nat := (nrS e S).filter fun i => decide (e.letters[i]? = some c)
def endS (e : E) (S : List Nat) : Bool := if S = [] then (gl e 0).nul else S.any fun i => decide (i ∈ (gl e 0).lst)
def runS (e : E) : List Nat → List Nat → Option (List Nat)
  | S, [] => some S
  | S, c :: w => if stS e S c = [] then none else runS e (stS e S c) w
def accS (e : E) (S w : List Nat) : Prop := ∃ T, runS e S w = some T ∧ endS e T = true
theorem mem_stS {e : E} {S : List Nat} {c y : Nat} : y ∈ stS e S c ↔ e.letters[y]? = some c ∧ ((S = [] ∧ y ∈ (gl e 0).fst) ∨ (S ≠ [] ∧ ∃ x ∈ S, (x, y) ∈ (gl e 0).fol)) := by
  unfold stS nrS
  rw [List.mem_filter, decide_eq_true_eq]
  by_cases h : S = []
  · rw [if_pos h]
    exact ⟨fun k => ⟨k.2, .inl ⟨h, k.1⟩⟩, fun k => ⟨k.2.elim (fun q => q.2) fun q => absurd h q.1, k.1⟩⟩
  · rw [if_neg h, List.mem_filter, List.mem_range, List.any_eq_true]
    constructor
    · rintro ⟨⟨_, x, hx, hf⟩, k⟩
      exact ⟨k, .inr ⟨h, x, hx, of_decide_eq_true hf⟩⟩
    · rintro ⟨k, q | ⟨_, x, hx, hf⟩⟩
      · exact absurd q.1 h
      · exact ⟨⟨by have := ((gl_within e 0).fol x y hf).2; omega, x, hx, decide_eq_true hf⟩, k⟩
theorem stS_lt {e : E} {S : List Nat} {c y : Nat} (h : y ∈ stS e S c) : y < e.places := by
  have := (List.getElem?_eq_some_iff.mp (mem_stS.mp h).1).1
  rw [letters_len] at this
  exact this
theorem accS_cons {e : E} {S w : List Nat} {c : Nat} : accS e S (c :: w) ↔ stS e S c ≠ [] ∧ accS e (stS e S c) w := by
  unfold accS
  rw [runS]
  by_cases h : stS e S c = []
  · rw [if_pos h]
    exact ⟨fun ⟨T, k, _⟩ => (by cases k), fun k => absurd h k.1⟩
  · rw [if_neg h]
    exact ⟨fun k => ⟨h, k⟩, fun k => k.2⟩
theorem accS_place {e : E} : ∀ (w : List Nat) {S : List Nat}, S ≠ [] → (accS e S w ↔ ∃ p ∈ S, ∃ ps, Sfx (gl e 0) p ps ∧ ps.map (fun p => e.letters[p]?) = w.map some)
  | [], S, hS => by
    constructor
    · rintro ⟨T, h1, h2⟩
      obtain rfl : S = T := Option.some.inj h1
      unfold endS at h2
      rw [if_neg hS, List.any_eq_true] at h2
      obtain ⟨p, hp, hl⟩ := h2
      exact ⟨p, hp, [], ⟨trivial, of_decide_eq_true hl⟩, rfl⟩
    · rintro ⟨p, hp, ps, h1, h2⟩
      match ps, h1, h2 with
      | [], h1, _ =>
        refine ⟨S, rfl, ?_⟩
        unfold endS
        rw [if_neg hS, List.any_eq_true]
        exact ⟨p, hp, decide_eq_true h1.2⟩
  | c :: w, S, hS => by
    rw [accS_cons]
    constructor
    · rintro ⟨h1, h2⟩
      obtain ⟨y, hy, ys, h3, h4⟩ := (accS_place w h1).mp h2
      obtain ⟨k1, k2⟩ := mem_stS.mp hy
      obtain ⟨x, hx, hf⟩ := (k2.resolve_left fun q => hS q.1).2
      exact ⟨x, hx, y :: ys, ⟨⟨hf, h3.1⟩, h3.2⟩, by rw [List.map_cons, List.map_cons, h4, k1]⟩
    · rintro ⟨x, hx, ps, h3, h4⟩
      match ps, h3, h4 with
      | y :: ys, h3, h4 =>
        rw [List.map_cons, List.map_cons] at h4
        injection h4 with k1 k2
        have hy : y ∈ stS e S c := mem_stS.mpr ⟨k1, .inr ⟨hS, x, hx, h3.1.1⟩⟩
        have hne : stS e S c ≠ [] := fun q => by rw [q] at hy; cases hy
        exact ⟨hne, (accS_place w hne).mpr ⟨y, hy, ys, ⟨h3.1.2, h3.2⟩, k2⟩⟩
theorem mw_accS {e : E} {w : List Nat} : MW e w ↔ accS e [] w := by
  rw [mw_acc]
  cases w with
  | nil =>
    constructor
    · rintro ⟨ps, h1, h2⟩
      match ps, h1, h2 with
      | [], h1, _ => exact ⟨[], rfl, by unfold endS; rw [if_pos rfl]; exact h1⟩
    · rintro ⟨T, h1, h2⟩
      obtain rfl : ([] : List Nat) = T := Option.some.inj h1
      unfold endS at h2
      rw [if_pos rfl] at h2
      exact ⟨[], h2, rfl⟩
  | cons c w =>
    rw [accS_cons]
    constructor
    · rintro ⟨ps, h1, h2⟩
      match ps, h1, h2 with
      | y :: ys, h1, h2 =>
        rw [List.map_cons, List.map_cons] at h2
        injection h2 with k1 k2
        have hy : y ∈ stS e [] c := mem_stS.mpr ⟨k1, .inl ⟨rfl, h1.1⟩⟩
        have hne : stS e [] c ≠ [] := fun q => by rw [q] at hy; cases hy
        exact ⟨hne, (accS_place w hne).mpr ⟨y, hy, ys, h1.2, k2⟩⟩
    · rintro ⟨h1, h2⟩
      obtain ⟨y, hy, ys, h3, h4⟩ := (accS_place w h1).mp h2
      obtain ⟨k1, k2⟩ := mem_stS.mp hy
      exact ⟨y :: ys, ⟨(k2.resolve_right fun q => q.1 rfl).2, h3⟩, by rw [List.map_cons, List.map_cons, h4, k1]⟩
theorem sfx_of {e : E} {p : Nat} (h : RchE ((gl e 0).fol.map fun x => (x.2, x.1)) (gl e 0).lst p) : ∃ ps, Sfx (gl e 0) p ps := by
  induction h with
  | base h => exact ⟨[], trivial, h⟩
  | @step p q _ k ih =>
    obtain ⟨ps, h1, h2⟩ := ih
    obtain ⟨x, hx, e1⟩ := List.mem_map.mp k
    injection e1 with e1 e2
    refine ⟨p :: ps, ⟨?_, h1⟩, h2⟩
    rw [← e1, ← e2]
    exact hx
theorem chn_bd {e : E} : ∀ (ps : List Nat) (p : Nat), chn (gl e 0).fol p ps → ∀ q ∈ ps, q < e.places
  | y :: ys, p, h, q, hq => by
    rcases List.mem_cons.mp hq with rfl | hq
    · have := ((gl_within e 0).fol p q h.1).2
      omega
    · exact chn_bd ys y h.2 q hq
theorem word_of {e : E} : ∀ {ps : List Nat}, (∀ q ∈ ps, q < e.places) → ∃ u : List Nat, ps.map (fun p => e.letters[p]?) = u.map some
  | [], _ => ⟨[], rfl⟩
  | q :: ps, h => by
    obtain ⟨u, hu⟩ := word_of fun r hr => h r (List.mem_cons_of_mem _ hr)
    have hq := h q (List.mem_cons_self ..)
    exact ⟨e.letters[q]'(by rw [letters_len]; exact hq) :: u, by rw [List.map_cons, List.map_cons, hu, List.getElem?_eq_getElem]⟩
/-- each set that is not empty is live -/
theorem accS_live {e : E} (ho : e.ok = true) {S : List Nat} (hS : S ≠ []) (hb : ∀ x ∈ S, x < e.places) : ∃ u, accS e S u := by
  obtain ⟨p, hp⟩ := List.exists_mem_of_ne_nil S hS
  obtain ⟨ps, h⟩ := sfx_of (gl_lead ho (hb p hp))
  obtain ⟨u, hu⟩ := word_of (chn_bd ps p h.1)
  exact ⟨u, (accS_place u hS).mpr ⟨p, hp, ps, h, hu⟩⟩
theorem accS_live0 {e : E} (ho : e.ok = true) : ∃ u, accS e [] u := by
  rcases gl_live e 0 ho with h | ⟨h, _⟩
  · exact ⟨[], [], rfl, by unfold endS; rw [if_pos rfl]; exact h⟩
  · obtain ⟨x, hx⟩ := List.exists_mem_of_ne_nil _ h
    have hxp : x < e.places := by have := (gl_within e 0).fst x hx; omega
    have hc : e.letters[x]? = some (e.letters[x]'(by rw [letters_len]; exact hxp)) := List.getElem?_eq_getElem _
    generalize e.letters[x]'(by rw [letters_len]; exact hxp) = c at hc
    have hy : x ∈ stS e [] c := mem_stS.mpr ⟨hc, .inl ⟨rfl, hx⟩⟩
    have hne : stS e [] c ≠ [] := fun q => by rw [q] at hy; cases hy
    obtain ⟨u, hu⟩ := accS_live ho hne fun y hy => stS_lt hy
    exact ⟨c :: u, accS_cons.mpr ⟨hne, hu⟩⟩
/-! ### automata as tables -/
abbrev Mv := Nat → Nat → Option Nat
def runM (mv : Mv) : Nat → List Nat → Option Nat
  | q, [] => some q
  | q, c :: w => (mv q c).bind fun t => runM mv t w
def accM (mv : Mv) (acc : Nat → Bool) (q : Nat) (w : List Nat) : Prop := ∃ t, runM mv q w = some t ∧ acc t = true
def tgt (mv : Mv) (m : Nat) : Option Nat := mv (m / 4) (97 + m % 4)
/-- the states are numbered as they are found -/
def Numb (n : Nat) (mv : Mv) : Prop := ∀ t, 0 < t → t < n → ∃ m, m < 4 * t ∧ tgt mv m = some t ∧ ∀ m' ≤ m, ∀ t', tgt mv m' = some t' → t' ≤ t
structure IsPre (L : List Nat → Prop) (n : Nat) (acc : Nat → Bool) (mv : Mv) : Prop where
  pos : 0 < n
  bd : ∀ q c t, mv q c = some t → q < n ∧ t < n ∧ 97 ≤ c ∧ c ≤ 100
  lang : ∀ w, L w ↔ accM mv acc 0 w
  live : ∀ q, q < n → ∃ u, accM mv acc q u
  num : Numb n mv
structure IsAut (L : List Nat → Prop) (n : Nat) (acc : Nat → Bool) (mv : Mv) : Prop extends IsPre L n acc mv where
  apart : ∀ q q', q < n → q' < n → (∀ u, accM mv acc q u ↔ accM mv acc q' u) → q = q'
theorem accM_cons {mv : Mv} {acc : Nat → Bool} {q c : Nat} {w : List Nat} : accM mv acc q (c :: w) ↔ ∃ t, mv q c = some t ∧ accM mv acc t w := by
  unfold accM
  rw [runM]
  constructor
  · rintro ⟨t, h1, h2⟩
    obtain ⟨s, h3, h4⟩ := Option.bind_eq_some_iff.mp h1
    exact ⟨s, h3, t, h4, h2⟩
  · rintro ⟨s, h3, t, h4, h2⟩
    exact ⟨t, Option.bind_eq_some_iff.mpr ⟨s, h3, h4⟩, h2⟩
theorem runM_app (mv : Mv) : ∀ (u v : List Nat) (q : Nat), runM mv q (u ++ v) = (runM mv q u).bind fun t => runM mv t v
  | [], _, _ => rfl
  | c :: u, v, q => by
    show (mv q c).bind (fun t => runM mv t (u ++ v)) = ((mv q c).bind fun t => runM mv t u).bind _
    cases mv q c with
    | none => rfl
    | some t => exact runM_app mv u v t
theorem runM_bd {L : List Nat → Prop} {n : Nat} {acc : Nat → Bool} {mv : Mv} (A : IsPre L n acc mv) : ∀ (u : List Nat) {q t : Nat}, q < n → runM mv q u = some t → t < n
  | [], q, t, hq, h => by
    obtain rfl : q = t := Option.some.inj h
    exact hq
  | c :: u, q, t, hq, h => by
    obtain ⟨s, h1, h2⟩ := Option.bind_eq_some_iff.mp (show (mv q c).bind (fun t => runM mv t u) = some t from h)
    exact runM_bd A u (A.bd q c s h1).2.1 h2
/-- equivalent states of two automata: their moves go along -/
theorem eqv_step {L L' : List Nat → Prop} {n n' : Nat} {acc acc' : Nat → Bool} {mv mv' : Mv} (A : IsPre L n acc mv) (A' : IsPre L' n' acc' mv') {q q' : Nat} (h : ∀ u, accM mv acc q u ↔ accM mv' acc' q' u) (c : Nat) :
    (mv q c = none ∧ mv' q' c = none) ∨ ∃ t t', mv q c = some t ∧ mv' q' c = some t' ∧ ∀ u, accM mv acc t u ↔ accM mv' acc' t' u := by
  cases h1 : mv q c with
  | none =>
    cases h2 : mv' q' c with
    | none => exact .inl ⟨rfl, rfl⟩
    | some t' =>
      obtain ⟨u, hu⟩ := A'.live t' (A'.bd _ _ _ h2).2.1
      obtain ⟨t, ht, _⟩ := accM_cons.mp ((h (c :: u)).mpr (accM_cons.mpr ⟨t', h2, hu⟩))
      rw [h1] at ht
      cases ht
  | some t =>
    cases h2 : mv' q' c with
    | none =>
      obtain ⟨u, hu⟩ := A.live t (A.bd _ _ _ h1).2.1
      obtain ⟨t', ht, _⟩ := accM_cons.mp ((h (c :: u)).mp (accM_cons.mpr ⟨t, h1, hu⟩))
      rw [h2] at ht
      cases ht
    | some t' =>
      refine .inr ⟨t, t', rfl, rfl, fun u => ?_⟩
      have := h (c :: u)
      rw [accM_cons, accM_cons, h1, h2] at this
      constructor
      · intro k
        obtain ⟨s, hs, hu⟩ := this.mp ⟨t, rfl, k⟩
        cases hs
        exact hu
      · intro k
        obtain ⟨s, hs, hu⟩ := this.mpr ⟨t', rfl, k⟩
        cases hs
        exact hu
theorem tgt_of {mv : Mv} {q c t : Nat} (h1 : 97 ≤ c) (h2 : c ≤ 100) (h : mv q c = some t) : tgt mv (4 * q + (c - 97)) = some t := by
  unfold tgt
  rw [show (4 * q + (c - 97)) / 4 = q by omega, show 97 + (4 * q + (c - 97)) % 4 = c by omega]
  exact h
/-- two least automata of the same words are the same -/
theorem IsAut.rel {L : List Nat → Prop} {n n' : Nat} {acc acc' : Nat → Bool} {mv mv' : Mv} (A : IsAut L n acc mv) (A' : IsAut L n' acc' mv') : ∀ k, k < n → k < n' ∧ ∀ u, accM mv acc k u ↔ accM mv' acc' k u := by
  intro k
  induction k using Nat.strongRecOn with
  | ind k ih =>
    intro hk
    rcases Nat.eq_zero_or_pos k with rfl | hp
    · exact ⟨A'.pos, fun u => (A.lang u).symm.trans (A'.lang u)⟩
    · obtain ⟨m, hm, ht, hle⟩ := A.num k hp hk
      have hs : m / 4 < k := by omega
      obtain ⟨hs', R⟩ := ih _ hs (by omega)
      rcases eqv_step A.toIsPre A'.toIsPre R (97 + m % 4) with ⟨h1, _⟩ | ⟨t, k', h1, h2, R'⟩
      · exact absurd (h1.symm.trans ht) (by intro c; cases c)
      · obtain rfl : t = k := Option.some.inj (h1.symm.trans ht)
        have hk' := (A'.bd _ _ _ h2).2.1
        rcases Nat.lt_trichotomy k' t with c | c | c
        · obtain ⟨_, R2⟩ := ih k' c (by omega)
          have := A.apart t k' hk (by omega) fun u => (R' u).trans (R2 u).symm
          omega
        · subst c
          exact ⟨hk', R'⟩
        · obtain ⟨m2, hm2, ht2, hle2⟩ := A'.num t hp (by omega)
          have hmm : m2 < m := by
            refine Nat.lt_of_not_le fun q => ?_
            have := hle2 m q k' h2
            omega
          obtain ⟨_, R3⟩ := ih (m2 / 4) (by omega) (by omega)
          rcases eqv_step A.toIsPre A'.toIsPre R3 (97 + m2 % 4) with ⟨_, h4⟩ | ⟨j, t2, h3, h4, R4⟩
          · exact absurd (h4.symm.trans ht2) (by intro c; cases c)
          · obtain rfl : t2 = t := Option.some.inj (h4.symm.trans ht2)
            have hj : j ≤ t2 := hle m2 (by omega) j h3
            rcases Nat.lt_or_eq_of_le hj with c2 | c2
            · obtain ⟨c3, R5⟩ := ih j c2 (by omega)
              have := A'.apart t2 j (by omega) c3 fun u => (R4 u).symm.trans (R5 u)
              omega
            · subst c2
              have := A'.apart j k' (by omega) hk' fun u => (R4 u).symm.trans (R' u)
              omega
theorem IsAut.uniq {L : List Nat → Prop} {n n' : Nat} {acc acc' : Nat → Bool} {mv mv' : Mv} (A : IsAut L n acc mv) (A' : IsAut L n' acc' mv') : n = n' ∧ (∀ q, q < n → acc q = acc' q) ∧ ∀ q c, mv q c = mv' q c := by
  have r1 := A.rel A'
  have r2 := A'.rel A
  have en : n = n' := by
    rcases Nat.lt_trichotomy n n' with c | c | c
    · have := (r2 n c).1
      omega
    · exact c
    · have := (r1 n' c).1
      omega
  subst en
  refine ⟨rfl, fun q hq => ?_, fun q c => ?_⟩
  · have h := (r1 q hq).2 []
    have e1 : accM mv acc q [] ↔ acc q = true := ⟨fun ⟨t, h1, h2⟩ => by obtain rfl : q = t := Option.some.inj h1; exact h2, fun h => ⟨q, rfl, h⟩⟩
    have e2 : accM mv' acc' q [] ↔ acc' q = true := ⟨fun ⟨t, h1, h2⟩ => by obtain rfl : q = t := Option.some.inj h1; exact h2, fun h => ⟨q, rfl, h⟩⟩
    rw [e1, e2] at h
    exact Bool.eq_iff_iff.mpr h
  · by_cases hq : q < n
    · rcases eqv_step A.toIsPre A'.toIsPre (r1 q hq).2 c with ⟨h1, h2⟩ | ⟨t, t', h1, h2, R⟩
      · rw [h1, h2]
      · rw [h1, h2]
        congr 1
        have ht := (A.bd _ _ _ h1).2.1
        exact A'.apart t t' ht (A'.bd _ _ _ h2).2.1 fun u => ((r1 t ht).2 u).symm.trans (R u)
    · cases h1 : mv q c with
      | some t => exact absurd (A.bd _ _ _ h1).1 hq
      | none =>
        cases h2 : mv' q c with
        | some t => exact absurd (A'.bd _ _ _ h2).1 hq
        | none => rfl
/-! ### classes -/
structure ClsA (N : Nat) (acc : Nat → Bool) (mv : Mv) (cl : Nat → Nat) (n : Nat) (sg : Nat → Nat) : Prop where
  rg : ∀ i, i < N → ∀ t, t < cl i → ∃ i' < i, cl i' = t
  eqv : ∀ i j, i < N → j < N → (cl i = cl j ↔ ∀ u, accM mv acc i u ↔ accM mv acc j u)
  bd : ∀ i, i < N → cl i < n
  sg : ∀ t, t < n → sg t < N ∧ cl (sg t) = t ∧ ∀ i < sg t, cl i ≠ t
def mvC (mv : Mv) (cl sg : Nat → Nat) (n : Nat) : Mv := fun t c => if t < n then (mv (sg t) c).map cl else none
theorem ClsA.aut {L : List Nat → Prop} {N n : Nat} {acc : Nat → Bool} {mv : Mv} {cl sg : Nat → Nat} (A : IsPre L N acc mv) (C : ClsA N acc mv cl n sg) : IsAut L n (fun t => acc (sg t)) (mvC mv cl sg n) := by
  have cl0 : cl 0 = 0 := by
    rcases Nat.eq_zero_or_pos (cl 0) with h | h
    · exact h
    · obtain ⟨i, hi, _⟩ := C.rg 0 A.pos 0 h
      exact absurd hi (Nat.not_lt_zero _)
  have hn : 0 < n := by
    have := C.bd 0 A.pos
    omega
  have key : ∀ i, i < N → ∀ c, mvC mv cl sg n (cl i) c = (mv i c).map cl := fun i hi c => by
    have hb := C.bd i hi
    obtain ⟨s1, s2, _⟩ := C.sg (cl i) hb
    unfold mvC
    rw [if_pos hb]
    rcases eqv_step A A ((C.eqv (sg (cl i)) i s1 hi).mp s2) c with ⟨h1, h2⟩ | ⟨t, t', h1, h2, R⟩
    · rw [h1, h2]
    · rw [h1, h2]
      exact congrArg some ((C.eqv t t' (A.bd _ _ _ h1).2.1 (A.bd _ _ _ h2).2.1).mpr R)
  have acce : ∀ i, i < N → acc (sg (cl i)) = acc i := fun i hi => by
    obtain ⟨s1, s2, _⟩ := C.sg (cl i) (C.bd i hi)
    have h := (C.eqv (sg (cl i)) i s1 hi).mp s2 []
    have e : ∀ q, accM mv acc q [] ↔ acc q = true := fun q => ⟨fun ⟨t, h1, h2⟩ => by obtain rfl : q = t := Option.some.inj h1; exact h2, fun h => ⟨q, rfl, h⟩⟩
    rw [e, e] at h
    exact Bool.eq_iff_iff.mpr h
  have accq : ∀ (u : List Nat) (i : Nat), i < N → (accM (mvC mv cl sg n) (fun t => acc (sg t)) (cl i) u ↔ accM mv acc i u) := by
    intro u
    induction u with
    | nil =>
      intro i hi
      constructor
      · rintro ⟨t, h1, h2⟩
        obtain rfl : cl i = t := Option.some.inj h1
        exact ⟨i, rfl, (acce i hi).symm.trans h2⟩
      · rintro ⟨t, h1, h2⟩
        obtain rfl : i = t := Option.some.inj h1
        exact ⟨cl i, rfl, (acce i hi).trans h2⟩
    | cons c u ih =>
      intro i hi
      rw [accM_cons, accM_cons, key i hi]
      constructor
      · rintro ⟨t, h1, h2⟩
        obtain ⟨s, h3, rfl⟩ := Option.map_eq_some_iff.mp h1
        exact ⟨s, h3, (ih s (A.bd _ _ _ h3).2.1).mp h2⟩
      · rintro ⟨s, h3, h2⟩
        exact ⟨cl s, by rw [h3]; rfl, (ih s (A.bd _ _ _ h3).2.1).mpr h2⟩
  have sgm : ∀ t t', t < t' → t' < n → sg t < sg t' := fun t t' h h' => by
    obtain ⟨a1, a2, _⟩ := C.sg t' h'
    obtain ⟨i, hi, he⟩ := C.rg (sg t') a1 t (by rw [a2]; exact h)
    obtain ⟨_, _, b3⟩ := C.sg t (by omega)
    refine Nat.lt_of_le_of_lt (Nat.le_of_not_lt fun q => b3 i q he) hi
  have lt_of : ∀ j t, t < n → j < sg t → cl j < t := fun j t ht hj => by
    obtain ⟨a1, a2, a3⟩ := C.sg t ht
    rcases Nat.lt_trichotomy (cl j) t with c | c | c
    · exact c
    · exact absurd c (a3 j hj)
    · obtain ⟨i, hi, he⟩ := C.rg j (by omega) t c
      exact absurd he (a3 i (by omega))
  refine ⟨⟨hn, fun q c t h => ?_, fun w => ?_, fun q hq => ?_, ?_⟩, fun q q' hq hq' h => ?_⟩
  · unfold mvC at h
    split at h
    · rename_i hq
      obtain ⟨s, h1, rfl⟩ := Option.map_eq_some_iff.mp h
      obtain ⟨_, b2, b3⟩ := A.bd _ _ _ h1
      exact ⟨hq, C.bd s b2, b3⟩
    · cases h
  · have := accq w 0 A.pos
    rw [cl0] at this
    exact (A.lang w).trans this.symm
  · obtain ⟨s1, s2, _⟩ := C.sg q hq
    obtain ⟨u, hu⟩ := A.live _ s1
    refine ⟨u, ?_⟩
    have := (accq u (sg q) s1).mpr hu
    rw [s2] at this
    exact this
  · intro t ht htn
    obtain ⟨s1, s2, s3⟩ := C.sg t htn
    have hj0 : 0 < sg t := by
      rcases Nat.eq_zero_or_pos (sg t) with h | h
      · rw [h, cl0] at s2
        omega
      · exact h
    obtain ⟨m1, hm1, ht1, hle1⟩ := A.num (sg t) hj0 s1
    have hex : ∃ m, tgt mv m = some (sg t) := ⟨m1, ht1⟩
    obtain ⟨m, hm, hmin⟩ : ∃ m, tgt mv m = some (sg t) ∧ ∀ m' < m, tgt mv m' ≠ some (sg t) := by
      have : ∀ k, ∀ m, m ≤ k → tgt mv m = some (sg t) → ∃ m, tgt mv m = some (sg t) ∧ ∀ m' < m, tgt mv m' ≠ some (sg t) := by
        intro k
        induction k with
        | zero => exact fun m hm h => ⟨m, h, fun m' h' => by omega⟩
        | succ k ih =>
          intro m hm h
          by_cases c : ∃ m' < m, tgt mv m' = some (sg t)
          · obtain ⟨m', h1, h2⟩ := c
            exact ih m' (by omega) h2
          · exact ⟨m, h, fun m' h1 h2 => c ⟨m', h1, h2⟩⟩
      exact this m1 m1 (Nat.le_refl _) ht1
    have hmm : m ≤ m1 := Nat.le_of_not_lt fun q => hmin m1 q ht1
    have hi : m / 4 < sg t := by omega
    have hiN : m / 4 < N := by omega
    have hmv : mv (m / 4) (97 + m % 4) = some (sg t) := hm
    -- the state is the first of its class
    have hfirst : sg (cl (m / 4)) = m / 4 := by
      have hb := C.bd _ hiN
      obtain ⟨a1, a2, a3⟩ := C.sg _ hb
      rcases Nat.lt_trichotomy (sg (cl (m / 4))) (m / 4) with c | c | c
      · exfalso
        have k1 := key (sg (cl (m / 4))) a1 (97 + m % 4)
        rw [a2, key _ hiN, hmv] at k1
        obtain ⟨j', h1, h2⟩ := Option.map_eq_some_iff.mp k1.symm
        rw [s2] at h2
        have h3 : tgt mv (4 * sg (cl (m / 4)) + m % 4) = some j' := by
          unfold tgt
          rw [show (4 * sg (cl (m / 4)) + m % 4) / 4 = sg (cl (m / 4)) by omega, show (4 * sg (cl (m / 4)) + m % 4) % 4 = m % 4 by omega]
          exact h1
        have h4 := hle1 _ (by omega) j' h3
        have h5 : ¬ j' < sg t := fun q => s3 j' q h2
        have h6 : j' = sg t := by omega
        rw [h6] at h3
        exact hmin _ (by omega) h3
      · exact c
      · exact absurd rfl (a3 _ c)
    have hst : cl (m / 4) < t := lt_of _ t htn hi
    refine ⟨4 * cl (m / 4) + m % 4, by omega, ?_, fun m' hm' t' ht' => ?_⟩
    · unfold tgt
      rw [show (4 * cl (m / 4) + m % 4) / 4 = cl (m / 4) by omega, show (4 * cl (m / 4) + m % 4) % 4 = m % 4 by omega, key _ hiN, hmv]
      exact congrArg some s2
    · have ht'' : mvC mv cl sg n (m' / 4) (97 + m' % 4) = some t' := ht'
      unfold mvC at ht''
      split at ht''
      · rename_i hq
        obtain ⟨j2, h1, rfl⟩ := Option.map_eq_some_iff.mp ht''
        have hpos : 4 * sg (m' / 4) + m' % 4 ≤ m := by
          by_cases c : m' / 4 < cl (m / 4)
          · have := sgm _ _ c (by omega)
            rw [hfirst] at this
            omega
          · have e1 : m' / 4 = cl (m / 4) := by omega
            rw [e1, hfirst]
            omega
        have h3 : tgt mv (4 * sg (m' / 4) + m' % 4) = some j2 := by
          unfold tgt
          rw [show (4 * sg (m' / 4) + m' % 4) / 4 = sg (m' / 4) by omega, show (4 * sg (m' / 4) + m' % 4) % 4 = m' % 4 by omega]
          exact h1
        have h4 := hle1 _ (by omega) j2 h3
        rcases Nat.lt_or_eq_of_le h4 with c | c
        · exact Nat.le_of_lt (lt_of j2 t htn c)
        · rw [c, s2]
          exact Nat.le_refl _
      · cases ht''
  · obtain ⟨a1, a2, _⟩ := C.sg q hq
    obtain ⟨b1, b2, _⟩ := C.sg q' hq'
    have := (C.eqv (sg q) (sg q') a1 b1).mpr fun u => by
      have h1 := accq u (sg q) a1
      have h2 := accq u (sg q') b1
      rw [a2] at h1
      rw [b2] at h2
      exact h1.symm.trans ((h u).trans h2)
    rw [a2, b2] at this
    exact this
end My
namespace My
open PySem PySem.Spec PyProof.Rows L2
/-! ### sets of places as they are found -/
structure Bfs (e : E) (S : List (List Nat)) (mv : Mv) (i k : Nat) : Prop where
  h0 : S[0]? = some []
  nd : S.Nodup
  bd : ∀ s ∈ S, ∀ x ∈ s, x < e.places
  le : i ≤ S.length
  mv1 : ∀ q c t, mv q c = some t → 4 * q + (c - 97) < 4 * i + k ∧ 97 ≤ c ∧ c ≤ 100 ∧ ∃ s, S[q]? = some s ∧ S[t]? = some (stS e s c) ∧ stS e s c ≠ []
  mv0 : ∀ q c s, 97 ≤ c → c ≤ 100 → 4 * q + (c - 97) < 4 * i + k → S[q]? = some s → mv q c = none → stS e s c = []
  num : ∀ t, 0 < t → t < S.length → ∃ m, m < 4 * t ∧ tgt mv m = some t ∧ ∀ m' ≤ m, ∀ t', tgt mv m' = some t' → t' ≤ t
def setMv (mv : Mv) (i c t : Nat) : Mv := fun q d => if q = i ∧ d = c then some t else mv q d
theorem setMv_same (mv : Mv) (i c t : Nat) : setMv mv i c t i c = some t := if_pos ⟨rfl, rfl⟩
theorem setMv_ne {mv : Mv} {i c t q d : Nat} (h : ¬ (q = i ∧ d = c)) : setMv mv i c t q d = mv q d := if_neg h
theorem tgt_set {mv : Mv} {i c t m : Nat} (h1 : 97 ≤ c) (h2 : c ≤ 100) (h : m ≠ 4 * i + (c - 97)) : tgt (setMv mv i c t) m = tgt mv m := by
  unfold tgt
  refine setMv_ne fun ⟨a, b⟩ => h ?_
  omega
theorem Bfs.start (e : E) : Bfs e [[]] (fun _ _ => none) 0 0 where
  h0 := rfl
  nd := by simp
  bd s hs x hx := by
    rw [List.mem_singleton.mp hs] at hx
    cases hx
  le := Nat.zero_le _
  mv1 q c t h := by cases h
  mv0 q c s _ _ h := absurd h (Nat.not_lt_zero _)
  num t h1 h2 := by
    have : t < 1 := h2
    omega
theorem Bfs.skip {e : E} {S : List (List Nat)} {mv : Mv} {i k : Nat} {s : List Nat} (B : Bfs e S mv i k) (hk : k < 4) (hs : S[i]? = some s) (h : stS e s (97 + k) = []) : Bfs e S mv i (k + 1) where
  h0 := B.h0
  nd := B.nd
  bd := B.bd
  le := B.le
  mv1 q c t h := by
    obtain ⟨a, b⟩ := B.mv1 q c t h
    exact ⟨by omega, b⟩
  mv0 q c s' h1 h2 h3 h4 h5 := by
    by_cases c1 : 4 * q + (c - 97) < 4 * i + k
    · exact B.mv0 q c s' h1 h2 c1 h4 h5
    · have e1 : q = i := by omega
      have e2 : c = 97 + k := by omega
      subst e1 e2
      obtain rfl : s = s' := Option.some.inj (hs.symm.trans h4)
      exact h
  num := B.num
theorem mv_free {e : E} {S : List (List Nat)} {mv : Mv} {i k q c : Nat} (B : Bfs e S mv i k) (h : 4 * i + k ≤ 4 * q + (c - 97)) : mv q c = none := by
  cases h1 : mv q c with
  | none => rfl
  | some t =>
    have := (B.mv1 q c t h1).1
    omega
theorem Bfs.old {e : E} {S : List (List Nat)} {mv : Mv} {i k t : Nat} {s : List Nat} (B : Bfs e S mv i k) (hk : k < 4) (hs : S[i]? = some s) (hne : stS e s (97 + k) ≠ []) (ht : S[t]? = some (stS e s (97 + k))) : Bfs e S (setMv mv i (97 + k) t) i (k + 1) where
  h0 := B.h0
  nd := B.nd
  bd := B.bd
  le := B.le
  mv1 q c t' h := by
    by_cases c1 : q = i ∧ c = 97 + k
    · obtain ⟨rfl, rfl⟩ := c1
      rw [setMv_same] at h
      cases h
      exact ⟨by omega, by omega, by omega, s, hs, ht, hne⟩
    · rw [setMv_ne c1] at h
      obtain ⟨a, b⟩ := B.mv1 q c t' h
      exact ⟨by omega, b⟩
  mv0 q c s' h1 h2 h3 h4 h5 := by
    by_cases c1 : q = i ∧ c = 97 + k
    · obtain ⟨rfl, rfl⟩ := c1
      rw [setMv_same] at h5
      cases h5
    · rw [setMv_ne c1] at h5
      refine B.mv0 q c s' h1 h2 ?_ h4 h5
      refine Classical.byContradiction fun d => c1 ⟨by omega, by omega⟩
  num t0 h1 h2 := by
    obtain ⟨m, hm, ht0, hle⟩ := B.num t0 h1 h2
    have hlt := (B.mv1 _ _ _ (show mv (m / 4) (97 + m % 4) = some t0 from ht0)).1
    have tg : ∀ m' ≤ m, tgt (setMv mv i (97 + k) t) m' = tgt mv m' := fun m' hm' => tgt_set (by omega) (by omega) (by omega)
    exact ⟨m, hm, by rw [tg m (Nat.le_refl _)]; exact ht0, fun m' hm' t' ht' => hle m' hm' t' (by rw [← tg m' hm']; exact ht')⟩
theorem Bfs.new {e : E} {S : List (List Nat)} {mv : Mv} {i k : Nat} {s : List Nat} (B : Bfs e S mv i k) (hk : k < 4) (hs : S[i]? = some s) (hne : stS e s (97 + k) ≠ []) (hno : stS e s (97 + k) ∉ S) : Bfs e (S ++ [stS e s (97 + k)]) (setMv mv i (97 + k) S.length) i (k + 1) where
  h0 := by
    rw [List.getElem?_append_left]
    · exact B.h0
    · exact (List.getElem?_eq_some_iff.mp B.h0).1
  nd := by
    rw [List.nodup_append]
    exact ⟨B.nd, by simp, fun a ha b hb => by rw [List.mem_singleton.mp hb]; rintro rfl; exact hno ha⟩
  bd s' hs' x hx := by
    rcases List.mem_append.mp hs' with h | h
    · exact B.bd s' h x hx
    · rw [List.mem_singleton.mp h] at hx
      exact stS_lt hx
  le := by
    rw [List.length_append]
    exact Nat.le_add_right_of_le B.le
  mv1 q c t' h := by
    have up : ∀ {j : Nat} {z : List Nat}, S[j]? = some z → (S ++ [stS e s (97 + k)])[j]? = some z := fun {j z} hz => by
      rw [List.getElem?_append_left (List.getElem?_eq_some_iff.mp hz).1]
      exact hz
    by_cases c1 : q = i ∧ c = 97 + k
    · obtain ⟨rfl, rfl⟩ := c1
      rw [setMv_same] at h
      cases h
      refine ⟨by omega, by omega, by omega, s, up hs, ?_, hne⟩
      rw [List.getElem?_append_right (Nat.le_refl _), Nat.sub_self]
      rfl
    · rw [setMv_ne c1] at h
      obtain ⟨a, b1, b2, s', b3, b4, b5⟩ := B.mv1 q c t' h
      exact ⟨by omega, b1, b2, s', up b3, up b4, b5⟩
  mv0 q c s' h1 h2 h3 h4 h5 := by
    by_cases c1 : q = i ∧ c = 97 + k
    · obtain ⟨rfl, rfl⟩ := c1
      rw [setMv_same] at h5
      cases h5
    · rw [setMv_ne c1] at h5
      have hi := (List.getElem?_eq_some_iff.mp hs).1
      have hq : q ≤ i := by omega
      rw [List.getElem?_append_left (by omega)] at h4
      refine B.mv0 q c s' h1 h2 ?_ h4 h5
      refine Classical.byContradiction fun d => c1 ⟨by omega, by omega⟩
  num t0 h1 h2 := by
    have hi := (List.getElem?_eq_some_iff.mp hs).1
    rw [List.length_append, List.length_singleton] at h2
    by_cases c0 : t0 < S.length
    · obtain ⟨m, hm, ht0, hle⟩ := B.num t0 h1 c0
      have hlt := (B.mv1 _ _ _ (show mv (m / 4) (97 + m % 4) = some t0 from ht0)).1
      have tg : ∀ m' ≤ m, tgt (setMv mv i (97 + k) S.length) m' = tgt mv m' := fun m' hm' => tgt_set (by omega) (by omega) (by omega)
      exact ⟨m, hm, by rw [tg m (Nat.le_refl _)]; exact ht0, fun m' hm' t' ht' => hle m' hm' t' (by rw [← tg m' hm']; exact ht')⟩
    · have e0 : t0 = S.length := by omega
      subst e0
      refine ⟨4 * i + k, by omega, ?_, fun m' hm' t' ht' => ?_⟩
      · unfold tgt
        rw [show (4 * i + k) / 4 = i by omega, show (4 * i + k) % 4 = k by omega]
        exact setMv_same ..
      · by_cases c1 : m' = 4 * i + k
        · subst c1
          unfold tgt at ht'
          rw [show (4 * i + k) / 4 = i by omega, show (4 * i + k) % 4 = k by omega, setMv_same] at ht'
          cases ht'
          exact Nat.le_refl _
        · rw [tgt_set (by omega) (by omega) (by omega)] at ht'
          obtain ⟨_, _, _, s', _, h4, _⟩ := B.mv1 _ _ _ (show mv (m' / 4) (97 + m' % 4) = some t' from ht')
          exact Nat.le_of_lt (List.getElem?_eq_some_iff.mp h4).1
theorem Bfs.row {e : E} {S : List (List Nat)} {mv : Mv} {i : Nat} (B : Bfs e S mv i 4) (h : i < S.length) : Bfs e S mv (i + 1) 0 where
  h0 := B.h0
  nd := B.nd
  bd := B.bd
  le := h
  mv1 q c t h := by
    obtain ⟨a, b⟩ := B.mv1 q c t h
    exact ⟨by omega, b⟩
  mv0 q c s h1 h2 h3 h4 h5 := B.mv0 q c s h1 h2 (by omega) h4 h5
  num := B.num
def endsOf (e : E) (S : List (List Nat)) (j : Nat) : Bool := endS e (S.getD j [])
mutual
theorem lts_all : ∀ e : E, e.ok = true → ∀ c ∈ e.letters, 97 ≤ c ∧ c ≤ 100
  | .eps, _, c, h => by cases h
  | .sym d, ho, c, h => by
    rw [E.letters, List.mem_singleton] at h
    rw [E.ok] at ho
    simp only [Bool.and_eq_true, decide_eq_true_eq] at ho
    rw [h]
    exact ho
  | .maybe e, ho, c, h => lts_all e (by rw [E.ok] at ho; exact ho) c (by rw [E.letters] at h; exact h)
  | .many e, ho, c, h => lts_all e (by rw [E.ok] at ho; exact ho) c (by rw [E.letters] at h; exact h)
  | .join es, ho, c, h => by
    rw [E.ok, oks_eq] at ho
    simp only [Bool.and_eq_true] at ho
    exact lts_alls es ho.1.2 c (by rw [E.letters] at h; exact h)
  | .alt es, ho, c, h => by
    rw [E.ok, oks_eq] at ho
    simp only [Bool.and_eq_true] at ho
    exact lts_alls es ho.1.2 c (by rw [E.letters] at h; exact h)
theorem lts_alls : ∀ es : List E, es.all E.ok = true → ∀ c ∈ E.letters.letterss es, 97 ≤ c ∧ c ≤ 100
  | [], _, c, h => by cases h
  | e :: es, ho, c, h => by
    rw [List.all_cons, Bool.and_eq_true] at ho
    rw [E.letters.letterss] at h
    rcases List.mem_append.mp h with h | h
    · exact lts_all e ho.1 c h
    · exact lts_alls es ho.2 c h
end
theorem stS_let {e : E} (ho : e.ok = true) {S : List Nat} {c : Nat} (h : stS e S c ≠ []) : 97 ≤ c ∧ c ≤ 100 := by
  obtain ⟨y, hy⟩ := List.exists_mem_of_ne_nil _ h
  exact lts_all e ho c (List.mem_of_getElem? (mem_stS.mp hy).1)
theorem idxOf_le_get {t : Nat} : ∀ (a : List Nat) (i : Nat), a[i]? = some t → a.idxOf t ≤ i
  | x :: a, 0, h => by
    obtain rfl : x = t := Option.some.inj h
    rw [List.idxOf_cons_self]
    exact Nat.le_refl _
  | x :: a, i + 1, h => by
    have ih := idxOf_le_get a i h
    rw [List.idxOf_cons]
    cases x == t
    · exact Nat.succ_le_succ ih
    · exact Nat.zero_le _
theorem getD_of {S : List (List Nat)} {j : Nat} {s : List Nat} (h : S[j]? = some s) : S.getD j [] = s := by
  rw [List.getD_eq_getElem?_getD, h]
  rfl
theorem Bfs.acc {e : E} {S : List (List Nat)} {mv : Mv} (ho : e.ok = true) (B : Bfs e S mv S.length 0) : ∀ (w : List Nat) (q : Nat) (s : List Nat), S[q]? = some s → (accM mv (endsOf e S) q w ↔ accS e s w)
  | [], q, s, hq => by
    have hE : endsOf e S q = endS e s := by unfold endsOf; rw [getD_of hq]
    constructor
    · rintro ⟨t, h1, h2⟩
      obtain rfl : q = t := Option.some.inj h1
      exact ⟨s, rfl, hE.symm.trans h2⟩
    · rintro ⟨t, h1, h2⟩
      obtain rfl : s = t := Option.some.inj h1
      exact ⟨q, rfl, hE.trans h2⟩
  | c :: w, q, s, hq => by
    rw [accM_cons, accS_cons]
    have hql := (List.getElem?_eq_some_iff.mp hq).1
    constructor
    · rintro ⟨t, h1, h2⟩
      obtain ⟨_, _, _, s', h3, h4, h5⟩ := B.mv1 q c t h1
      obtain rfl : s = s' := Option.some.inj (hq.symm.trans h3)
      exact ⟨h5, (B.acc ho w t _ h4).mp h2⟩
    · rintro ⟨h1, h2⟩
      obtain ⟨l1, l2⟩ := stS_let ho h1
      cases hm : mv q c with
      | none => exact absurd (B.mv0 q c s l1 l2 (by omega) hq hm) h1
      | some t =>
        obtain ⟨_, _, _, s', h3, h4, h5⟩ := B.mv1 q c t hm
        obtain rfl : s = s' := Option.some.inj (hq.symm.trans h3)
        exact ⟨t, rfl, (B.acc ho w t _ h4).mpr h2⟩
theorem Bfs.pre {e : E} {S : List (List Nat)} {mv : Mv} (ho : e.ok = true) (B : Bfs e S mv S.length 0) : IsPre (MW e) S.length (endsOf e S) mv where
  pos := (List.getElem?_eq_some_iff.mp B.h0).1
  bd q c t h := by
    obtain ⟨_, h1, h2, s, h3, h4, _⟩ := B.mv1 q c t h
    exact ⟨(List.getElem?_eq_some_iff.mp h3).1, (List.getElem?_eq_some_iff.mp h4).1, h1, h2⟩
  lang w := mw_accS.trans (B.acc ho w 0 [] B.h0).symm
  live q hq := by
    have hs : S[q]? = some S[q] := List.getElem?_eq_getElem hq
    have : ∃ u, accS e S[q] u := by
      by_cases h : S[q] = []
      · rw [h]
        exact accS_live0 ho
      · exact accS_live ho h (B.bd _ (List.getElem_mem hq))
    obtain ⟨u, hu⟩ := this
    exact ⟨u, (B.acc ho u q _ hs).mpr hu⟩
  num := B.num
/-! ### finer and finer classes -/
def wayN (a : List Nat) (o : Option Nat) : NestedKey := match o with
  | some t => .num ((a.getD t 0 : Nat) : Int)
  | none => .num (-1)
def lets4 : List Nat := [97, 98, 99, 100]
def signN (mv : Mv) (a : List Nat) (i : Nat) : NestedKey := .tup [.num ((a.getD i 0 : Nat) : Int), .tup (lets4.map fun c => wayN a (mv i c))]
def finer (mv : Mv) (a : List Nat) : List Nat := numL ((List.range a.length).map fun i => signN mv a i)
theorem finer_len (mv : Mv) (a : List Nat) : (finer mv a).length = a.length := by
  unfold finer
  rw [numL_len, List.length_map, List.length_range]
structure Refn (N : Nat) (acc : Nat → Bool) (mv : Mv) (a : List Nat) : Prop where
  len : a.length = N
  rg : RG a
  coarse : ∀ i j : Nat, i < N → j < N → (∀ u, accM mv acc i u ↔ accM mv acc j u) → a[i]? = a[j]?
  fine : ∀ i j : Nat, i < N → j < N → a[i]? = a[j]? → acc i = acc j
theorem wayN_inj {a : List Nat} {o p : Option Nat} (h : wayN a o = wayN a p) : (o = none ∧ p = none) ∨ ∃ t u, o = some t ∧ p = some u ∧ a.getD t 0 = a.getD u 0 := by
  cases o with
  | none =>
    cases p with
    | none => exact .inl ⟨rfl, rfl⟩
    | some u =>
      unfold wayN at h
      injection h with h
      omega
  | some t =>
    cases p with
    | none =>
      unfold wayN at h
      injection h with h
      omega
    | some u =>
      unfold wayN at h
      injection h with h
      exact .inr ⟨t, u, rfl, rfl, by omega⟩
theorem getDN {a : List Nat} {i : Nat} (h : i < a.length) : a[i]? = some (a.getD i 0) := by
  rw [List.getD_eq_getElem?_getD, List.getElem?_eq_getElem h]
  rfl
theorem finer_iff {mv : Mv} {a : List Nat} {i j : Nat} (hi : i < a.length) (hj : j < a.length) : (finer mv a)[i]? = (finer mv a)[j]? ↔ signN mv a i = signN mv a j := by
  have g : ∀ {k : Nat}, k < a.length → ((List.range a.length).map fun i => signN mv a i)[k]? = some (signN mv a k) := fun {k} hk => by
    rw [List.getElem?_map, List.getElem?_range hk]
    rfl
  have h1 := numL_get (g hi)
  have h2 := numL_get (g hj)
  unfold finer
  rw [h1, h2]
  exact ⟨fun h => (numL_iff (g hi) (g hj) h1 h2).mp (Option.some.inj h), fun h => congrArg some ((numL_iff (g hi) (g hj) h1 h2).mpr h)⟩
theorem sign_parts {mv : Mv} {a : List Nat} {i j : Nat} (h : signN mv a i = signN mv a j) : a.getD i 0 = a.getD j 0 ∧ ∀ c ∈ lets4, wayN a (mv i c) = wayN a (mv j c) := by
  unfold signN at h
  injection h with h
  injection h with h1 h2
  injection h1 with h1
  injection h2 with h2 _
  injection h2 with h2
  refine ⟨by omega, fun c hc => ?_⟩
  obtain ⟨k, hk⟩ := List.mem_iff_getElem?.mp hc
  have h3 := congrArg (fun l => l[k]?) h2
  simp only [List.getElem?_map, hk, Option.map_some] at h3
  exact Option.some.inj h3
theorem Refn.step {L : List Nat → Prop} {N : Nat} {acc : Nat → Bool} {mv : Mv} {a : List Nat} (A : IsPre L N acc mv) (R : Refn N acc mv a) : Refn N acc mv (finer mv a) ∧ ∀ i j : Nat, i < a.length → j < a.length → (finer mv a)[i]? = (finer mv a)[j]? → a[i]? = a[j]? := by
  have len := R.len
  have ref : ∀ i j : Nat, i < a.length → j < a.length → (finer mv a)[i]? = (finer mv a)[j]? → a[i]? = a[j]? := fun i j hi hj h => by
    rw [getDN hi, getDN hj, (sign_parts ((finer_iff hi hj).mp h)).1]
  refine ⟨⟨(finer_len mv a).trans len, numL_rg _, fun i j hi hj h => ?_, fun i j hi hj h => R.fine i j hi hj (ref i j (by omega) (by omega) h)⟩, ref⟩
  rw [finer_iff (by omega) (by omega)]
  have e1 := R.coarse i j hi hj h
  rw [getDN (by omega), getDN (by omega)] at e1
  have e1 := Option.some.inj e1
  unfold signN
  rw [e1]
  congr 2
  congr 1
  congr 1
  refine List.map_congr_left fun c _ => ?_
  rcases eqv_step A A h c with ⟨h1, h2⟩ | ⟨t, t', h1, h2, R'⟩
  · rw [h1, h2]
  · rw [h1, h2]
    have ht := (A.bd _ _ _ h1).2.1
    have ht' := (A.bd _ _ _ h2).2.1
    have e2 := R.coarse t t' ht ht' R'
    rw [getDN (by omega), getDN (by omega)] at e2
    show NestedKey.num _ = NestedKey.num _
    rw [Option.some.inj e2]
/-- how many classes there are, as they come -/
def cntR (a : List Nat) : Nat := a.foldl (fun n x => if x = n then n + 1 else n) 0
theorem cntR_snoc (a : List Nat) (x : Nat) : cntR (a ++ [x]) = if x = cntR a then cntR a + 1 else cntR a := by
  unfold cntR
  rw [List.foldl_append]
  rfl
theorem RG.take {a : List Nat} (h : RG a) (k : Nat) : RG (a.take k) := fun i m hm m' hlt => by
  have hi := (List.getElem?_eq_some_iff.mp hm).1
  rw [List.length_take] at hi
  rw [List.getElem?_take_of_lt (by omega)] at hm
  obtain ⟨i', h1, h2⟩ := h i m hm m' hlt
  exact ⟨i', h1, by rw [List.getElem?_take_of_lt (by omega)]; exact h2⟩
theorem cntR_mem {a : List Nat} (h : RG a) : ∀ t, t < cntR a ↔ t ∈ a := by
  have key : ∀ k, k ≤ a.length → ∀ t, t < cntR (a.take k) ↔ t ∈ a.take k := by
    intro k
    induction k with
    | zero => intro _ t; simp [cntR]
    | succ k ih =>
      intro hk t
      have hx : a[k]? = some a[k] := List.getElem?_eq_getElem (by omega)
      generalize a[k] = x at hx
      have ih := ih (by omega)
      rw [take_snoc hx, cntR_snoc, List.mem_append, List.mem_singleton, ← ih]
      have hxle : x ≤ cntR (a.take k) := by
        refine Nat.le_of_not_lt fun q => ?_
        obtain ⟨i', h1, h2⟩ := h k x hx _ q
        have : cntR (a.take k) ∈ a.take k := List.mem_of_getElem? (i := i') (by rw [List.getElem?_take_of_lt h1]; exact h2)
        have := (ih _).mpr this
        omega
      split
      · omega
      · omega
  intro t
  have := key a.length (Nat.le_refl _) t
  rw [List.take_length] at this
  exact this
theorem Refn.cls {L : List Nat → Prop} {N : Nat} {acc : Nat → Bool} {mv : Mv} {a : List Nat} (A : IsPre L N acc mv) (R : Refn N acc mv a) (h : finer mv a = a) : ClsA N acc mv (fun i => a.getD i 0) (cntR a) (fun t => a.idxOf t) where
  rg i hi t ht := by
    have len := R.len
    obtain ⟨i', h1, h2⟩ := R.rg i _ (getDN (by omega)) t ht
    refine ⟨i', h1, ?_⟩
    rw [getDN (by omega)] at h2
    exact Option.some.inj h2
  eqv i j hi hj := by
    have len := R.len
    constructor
    · intro e0 u
      have key : ∀ (u : List Nat) (i j : Nat), i < N → j < N → a.getD i 0 = a.getD j 0 → accM mv acc i u → accM mv acc j u := by
        intro u
        induction u with
        | nil =>
          rintro i j hi hj e1 ⟨t, h1, h2⟩
          obtain rfl : i = t := Option.some.inj h1
          have := R.fine i j hi hj (by rw [getDN (by omega), getDN (by omega), e1])
          exact ⟨j, rfl, this.symm.trans h2⟩
        | cons c u ih =>
          intro i j hi hj e1 h1
          obtain ⟨t, h2, h3⟩ := accM_cons.mp h1
          obtain ⟨_, b2, b3, b4⟩ := A.bd _ _ _ h2
          have e2 : signN mv a i = signN mv a j := by
            rw [← finer_iff (by omega) (by omega), h, getDN (by omega), getDN (by omega), e1]
          have hc : c ∈ lets4 := by
            have : c = 97 ∨ c = 98 ∨ c = 99 ∨ c = 100 := by omega
            rcases this with rfl | rfl | rfl | rfl <;> decide
          rcases wayN_inj ((sign_parts e2).2 c hc) with ⟨k1, _⟩ | ⟨t1, t2, k1, k2, k3⟩
          · rw [h2] at k1
            cases k1
          · rw [h2] at k1
            cases k1
            exact accM_cons.mpr ⟨t2, k2, ih t t2 b2 (A.bd _ _ _ k2).2.1 k3 h3⟩
      exact ⟨key u i j hi hj e0, key u j i hj hi e0.symm⟩
    · intro h
      have := R.coarse i j hi hj h
      rw [getDN (by omega), getDN (by omega)] at this
      exact Option.some.inj this
  bd i hi := by
    have len := R.len
    exact (cntR_mem R.rg _).mpr (List.mem_of_getElem? (getDN (by omega)))
  sg t ht := by
    have len := R.len
    have hm := (cntR_mem R.rg t).mp ht
    have hl := List.idxOf_lt_length_of_mem hm
    refine ⟨by omega, ?_, fun i hi e0 => ?_⟩
    · have e1 := getDN hl
      rw [List.getElem?_eq_getElem hl, List.getElem_idxOf hl] at e1
      exact (Option.some.inj e1).symm
    · have hil : i < a.length := by omega
      exact absurd hi (Nat.not_lt_of_le (idxOf_le_get a i (by rw [getDN hil, e0])))
def boolK (b : Bool) : Leaf := .num (if b = true then 1 else 0)
theorem boolK_inj {a b : Bool} (h : boolK a = boolK b) : a = b := by
  unfold boolK at h
  injection h with h
  cases a <;> cases b <;> first | rfl | (simp at h)
theorem Refn.start {L : List Nat → Prop} {N : Nat} {acc : Nat → Bool} {mv : Mv} (A : IsPre L N acc mv) : Refn N acc mv (numL ((List.range N).map fun i => boolK (acc i))) := by
  have g : ∀ {k : Nat}, k < N → ((List.range N).map fun i => boolK (acc i))[k]? = some (boolK (acc k)) := fun {k} hk => by
    rw [List.getElem?_map, List.getElem?_range hk]
    rfl
  have iff_ : ∀ i j : Nat, i < N → j < N → ((numL ((List.range N).map fun i => boolK (acc i)))[i]? = (numL ((List.range N).map fun i => boolK (acc i)))[j]? ↔ acc i = acc j) := fun i j hi hj => by
    have h1 := numL_get (g hi)
    have h2 := numL_get (g hj)
    rw [h1, h2]
    exact ⟨fun h => boolK_inj ((numL_iff (g hi) (g hj) h1 h2).mp (Option.some.inj h)), fun h => by rw [h]⟩
  refine ⟨by rw [numL_len, List.length_map, List.length_range], numL_rg _, fun i j hi hj h => ?_, fun i j hi hj h => (iff_ i j hi hj).mp h⟩
  rw [iff_ i j hi hj]
  have e : ∀ q, accM mv acc q [] ↔ acc q = true := fun q => ⟨fun ⟨t, h1, h2⟩ => by obtain rfl : q = t := Option.some.inj h1; exact h2, fun h => ⟨q, rfl, h⟩⟩
  have := h []
  rw [e, e] at this
  exact Bool.eq_iff_iff.mpr this
/-- the least automaton of an expression, from the last classes -/
theorem aut_of {e : E} {S : List (List Nat)} {mv : Mv} {a : List Nat} (ho : e.ok = true) (B : Bfs e S mv S.length 0) (R : Refn S.length (endsOf e S) mv a) (h : finer mv a = a) : IsAut (MW e) (cntR a) (fun t => endsOf e S (a.idxOf t)) (mvC mv (fun i => a.getD i 0) (fun t => a.idxOf t) (cntR a)) := (R.cls (B.pre ho) h).aut (B.pre ho)
end My
namespace My
open PySem PySem.Spec PyProof.Rows L2
/-! ### a display of one pair whose key is a tuple -/
def tDisp1T (tk tv : TE) : TE := fun σ H Q => ∀ p, H p = none → tk σ (upd H p (.dT [])) fun x H1 => tv σ H1 fun y H2 => H2 p = some (.dT []) ∧ ∃ (k : List L2.Key) (b : Addr), x = .ref b ∧ H2 b = some (.tup (k.map kV)) ∧ Q (.ref p) (upd H2 p (.dT [(k, y)]))
theorem pe_disp1T {X : Cx} {pos : Pos} {ke ve : Expr} {tk tv : TE} (hu : X.A.units + 1 < cLine) (hk : PE X ke tk) (hv : PE X ve tv) : PE X (.Dict [some ke] [ve] pos) (tDisp1T tk tv) := by
  refine ⟨fun pins s σ H Q I q => ?_⟩
  have hn := I.hok.fresh (Nat.le_refl s.heap.objs.size)
  have I1 := I.laid (a := s.heap.objs.size) (o := .dT []) (h' := s.heap.push { cls := .type "dict", data := .dict #[] }) (t' := s.toks) (fun _ _ q => Heap.get?_push_of_some _ q) (Nat.le_refl _) (dt_empty s.heap I.big)
  rw [arm_eval_Dict, zip_pairTrees [some ke] [ve] X.env pos rfl rfl, dictDisplay_pairs (pairTrees [some ke] [ve] X.env pos) (by intro c; cases c) (by show 1 < 17; decide)]
  refine wpAny_bind (wpAny_standAt (wpAny_bind (wpAny_subDictH (knd := tupleKind (mixKind X.prog X.w)) (by show X.A.units < cLine; omega) (by show 1 ≤ 15; decide) ?_)))
  refine pairTrees_cons_walk (thn (hk.run pins _ σ _ _ I1 (q _ hn)) fun u s1 ⟨x, H1, I2, rx, q1⟩ => thn (hv.run pins s1 σ H1 _ I2 q1) fun w2 s2 ⟨y, H2, I3, ry, e, k, b, ex, eb, q2⟩ => pairTrees_nil_walk ?_)
  subst ex
  obtain rfl : u = Value.ref b := rx
  obtain ⟨z, hd, xs0, r0, dd⟩ := dt_of I3.hok e
  cases r0
  refine ⟨[(k, b, w2)], ⟨rfl, rfl, key_of I3.hok eb, trivial⟩, dd, fun h' tk' dd' hs => wpAny_pure ⟨.ref s.heap.objs.size, _, ?_, rfl, q2⟩⟩
  have he : ∃ q, h'.get? s.heap.objs.size = some q := let ⟨q, _, _, hq, _⟩ := dd'; ⟨q, hq⟩
  refine d_write (t' := tk') I3 (by rw [e]; exact True.intro) hs he ?_
  obtain ⟨o, es, ep, h1, h2, h3, h4, _, h5⟩ := dd'
  have nb : b ≠ s.heap.objs.size := ne_of eb e (by intro c; cases c)
  exact ⟨by show 1 ≤ sizeLine; decide, hd, [(k, b, w2)], .cons ⟨rfl, by rw [upd_ne nb]; exact eb, ry⟩ .nil, o, es, ep, h1, h2, h3, h4, h5⟩
end My
namespace My
open PySem PySem.Spec PyProof.Rows L2
/-! ### dicts whose keys are nested tuples -/
inductive NK (H : Hp) : NestedKey → V → Prop
  | non : NK H .none .non
  | bl (b : Bool) : NK H (.num (if b = true then 1 else 0)) (.bl b)
  | int (i : Int) : NK H (.num i) (.int i)
  | str (z : Str) : NK H (.text z) (.str z)
  | tup {p : Addr} {xs : List V} {ks : List NestedKey} (h : H p = some (.tup xs)) (l : xs.length = ks.length) (k : ∀ (i : Nat) (x : V) (d : NestedKey), xs[i]? = some x → ks[i]? = some d → NK H d x) : NK H (.tup ks) (.ref p)
theorem NK.tup2 {H : Hp} {p : Addr} {xs : List V} {ks : List NestedKey} (h : H p = some (.tup xs)) (t : Two (fun x d => NK H d x) xs ks) : NK H (.tup ks) (.ref p) := .tup h t.len fun _ _ _ h1 h2 => t.get2 h1 h2
theorem NK.tk {H H' : Hp} (t : ∀ b xs, H b = some (.tup xs) → H' b = some (.tup xs)) {k : NestedKey} {v : V} (h : NK H k v) : NK H' k v := by
  induction h with
  | non => exact .non
  | bl b => exact .bl b
  | int i => exact .int i
  | str z => exact .str z
  | tup h l _ ih => exact .tup (t _ _ h) l ih
theorem NK.pers {H H' : Hp} (s : Pers H H') {k : NestedKey} {v : V} (h : NK H k v) : NK H' k v := h.tk s.tup
theorem nestedAll_of {h : Heap} : ∀ {vs : List Value} {ks : List NestedKey}, vs.length = ks.length → (∀ (i : Nat) (v : Value) (k : NestedKey), vs[i]? = some v → ks[i]? = some k → NestedIs h k v) → NestedAll h ks vs
  | [], [], _, _ => .nil
  | [], _ :: _, l, _ => by cases l
  | _ :: _, [], l, _ => by cases l
  | v :: vs, k :: ks, l, f => .cons (f 0 v k rfl rfl) (nestedAll_of (Nat.succ.inj l) fun i v' k' h1 h2 => f (i + 1) v' k' h1 h2)
theorem nk_is {P : Program} {w : World} {H : Hp} {h : Heap} (ok : HOk P w H h) {k : NestedKey} {v : V} (n : NK H k v) : ∀ {u : Value}, RelV v u → NestedIs h k u := by
  induction n with
  | non => intro u r; obtain rfl : u = .none := r; exact .none
  | bl b => intro u r; obtain rfl : u = .bool b := r; exact .bool rfl
  | int i => intro u r; obtain ⟨t, rfl⟩ := r; exact .int i t
  | str z => intro u r; obtain ⟨t, rfl⟩ := r; exact .text z t
  | @tup p xs ks hp l _ ih =>
    intro u r
    obtain rfl : u = .ref p := r
    obtain ⟨_, its, rv, o, h1, h2, n, h3⟩ := (show ObjOk P w H h p (.tup xs) from ok p _ hp)
    refine .tup h1 h2 h3 ?_
    have e : its.toArray.toList = its := by simp
    rw [e]
    have rl := rv.length
    refine nestedAll_of (by omega) fun i y d hy hd => ?_
    have hil : i < xs.length := by
      have := (List.getElem?_eq_some_iff.mp hy).1
      omega
    have hx : xs[i]? = some xs[i] := List.getElem?_eq_getElem hil
    obtain ⟨y', h4, h5⟩ := rv.get hx
    rw [hy] at h4
    cases h4
    exact ih i _ d hx hd h5
abbrev NKr : List (NestedKey × V) → List (NestedKey × Addr × Value) → Prop := Paired fun p q => p.1 = q.1 ∧ RelV p.2 q.2.2
theorem NKr.val {kvs : List (NestedKey × V)} {xs : List (NestedKey × Addr × Value)} (r : NKr kvs xs) (k : NestedKey) : RelO (valV kvs k) ((atKey xs k).map (·.2)) := by
  induction r with
  | nil => exact True.intro
  | @cons p q ps qs h _ ih =>
    by_cases e : p.1 = k
    · have b : atKey (q :: qs) k = some q.2 := by simp [atKey, List.find?_cons, h.1.symm.trans e]
      rw [valV_pos e, b]
      exact h.2
    · have e' : ¬ q.1 = k := fun z => e (h.1.trans z)
      have b : atKey (q :: qs) k = atKey qs k := by simp [atKey, List.find?_cons, e']
      rw [valV_neg e, b]
      exact ih
theorem NKr.snoc {kvs : List (NestedKey × V)} {xs : List (NestedKey × Addr × Value)} {p : NestedKey × V} {q : NestedKey × Addr × Value} (r : NKr kvs xs) (h : p.1 = q.1 ∧ RelV p.2 q.2.2) : NKr (kvs ++ [p]) (xs ++ [q]) := by
  induction r with
  | nil => exact .cons h .nil
  | cons h' _ ih => exact .cons h' ih
theorem NKr.repl {kvs : List (NestedKey × V)} {xs : List (NestedKey × Addr × Value)} (r : NKr kvs xs) (k : NestedKey) {y : V} {u : Value} (ry : RelV y u) : NKr (kvs.map fun kv => if kv.1 = k then (kv.1, y) else kv) (xs.map (putAt k u)) := by
  induction r with
  | nil => exact .nil
  | @cons p q ps qs h _ ih =>
    refine .cons ?_ ih
    show (if p.1 = k then (p.1, y) else p).1 = (putAt k u q).1 ∧ RelV (if p.1 = k then (p.1, y) else p).2 (putAt k u q).2.2
    unfold putAt
    by_cases e : p.1 = k
    · rw [if_pos e, if_pos (h.1.symm.trans e)]
      exact ⟨h.1, ry⟩
    · rw [if_neg e, if_neg fun z => e (h.1.trans z)]
      exact h
theorem NKr.put {kvs : List (NestedKey × V)} {xs : List (NestedKey × Addr × Value)} (r : NKr kvs xs) (k : NestedKey) {b : Addr} {y : V} {u : Value} (ry : RelV y u) : NKr (putK kvs k y) (storedH xs k b u) := by
  have e : (kvs.any fun kv => decide (kv.1 = k)) = (atKey xs k).isSome := by rw [valV_any, (r.val k).isSome_eq, Option.isSome_map]
  unfold putK storedH
  rw [e]
  by_cases q : (atKey xs k).isSome = true
  · rw [if_pos q, if_pos q]
    exact r.repl k ry
  · rw [if_neg q, if_neg q]
    exact r.snoc ⟨rfl, ry⟩
/-- the dict's own object, its keys' tuples at `as` -/
def NDict (P : Program) (w : World) (d : Addr) (kvs : List (NestedKey × V)) (as : List Addr) : HO := .ext fun h => (d == sysModules) = false ∧ kvs.length ≤ sizeLine ∧ ∃ xs : List (NestedKey × Addr × Value), NKr kvs xs ∧ xs.map (fun x => x.2.1) = as ∧
  ∃ o es ep, h.get? d = some o ∧ o.ExactDict ∧ o.data = .dict es ep ∧ es.toList = xs.map (entryOfKey (nestedKind P w)) ∧ (xs.map (·.1)).Nodup
def KeysTk (H : Hp) (ks : List NestedKey) (as : List Addr) : Prop := Two (fun k a => NK H k (.ref a) ∧ k.depth ≤ 8) ks as
/-- at d stands a dict of nested keys -/
def NDAt (P : Program) (w : World) (H : Hp) (d : Addr) (kvs : List (NestedKey × V)) : Prop := ∃ as, H d = some (NDict P w d kvs as) ∧ KeysTk H (kvs.map (·.1)) as
theorem NDAt.tk {P : Program} {w : World} {H H' : Hp} {d : Addr} {kvs : List (NestedKey × V)} (h : NDAt P w H d kvs) (e : H' d = H d) (t : ∀ b xs, H b = some (.tup xs) → H' b = some (.tup xs)) : NDAt P w H' d kvs := by
  obtain ⟨as, h1, h2⟩ := h
  exact ⟨as, e.trans h1, h2.mono fun k a q => ⟨q.1.tk t, q.2⟩⟩
theorem NDAt.same {P : Program} {w : World} {H H' : Hp} {d : Addr} {kvs : List (NestedKey × V)} (h : NDAt P w H d kvs) (s : Same H H') : NDAt P w H' d kvs := by
  have ⟨as, h1, _⟩ := h
  exact h.tk ((s _ _ h1).trans h1.symm) fun b xs q => s _ _ q
theorem ndict_ok {P : Program} {w : World} {H : Hp} {h : Heap} {d : Addr} {kvs : List (NestedKey × V)} {as : List Addr} {xs : List (NestedKey × Addr × Value)} (hd : (d == sysModules) = false) (hl : kvs.length ≤ sizeLine) (r : NKr kvs xs) (e : xs.map (fun x => x.2.1) = as) (m : h.DictOfH (nestedKind P w) d xs) : ObjOk P w H h d (NDict P w d kvs as) := by
  obtain ⟨o, es, ep, h1, h2, h3, h4, _, h5⟩ := m
  refine ⟨⟨hd, hl, xs, r, e, o, es, ep, h1, h2, h3, h4, h5⟩, ⟨o, h1⟩, fun g1 g2 p k => ?_⟩
  obtain ⟨a1, a2, ys, a3, a4, o', es', ep', b1, b2⟩ := p
  exact ⟨a1, a2, ys, a3, a4, o', es', ep', k _ b1, b2⟩
section
variable {X : Cx} {pins : List (Addr × Obj)} {σ : L2.St} {H : Hp} {s : Shared} {d b : Addr} {k : NestedKey} {A : Around} {E : Value → Shared → Prop}
theorem nd_get {kvs : List (NestedKey × V)} (I : Inv X pins σ H s) (h : NDAt X.prog X.w H d kvs) : (d == sysModules) = false ∧ kvs.length ≤ sizeLine ∧ ∃ as xs, H d = some (NDict X.prog X.w d kvs as) ∧ KeysTk H (kvs.map (·.1)) as ∧ NKr kvs xs ∧ xs.map (fun x => x.2.1) = as ∧ s.heap.DictOfH (nestedKind X.prog X.w) d xs := by
  obtain ⟨as, h1, h2⟩ := h
  obtain ⟨⟨hd, hl, xs, r, e, o, es, ep, q1, q2, q3, q4, q5⟩, _, _⟩ := (show ObjOk X.prog X.w H s.heap d (NDict X.prog X.w d kvs as) from I.hok d _ h1)
  refine ⟨hd, hl, as, xs, h1, h2, r, e, o, es, ep, q1, q2, q3, q4, fun x hx => ?_, q5⟩
  have all : ∀ {l : List (NestedKey × V)} {m : List (NestedKey × Addr × Value)}, NKr l m → ∀ as, m.map (fun x => x.2.1) = as → KeysTk H (l.map (·.1)) as → ∀ x ∈ m, (nestedKind X.prog X.w).is s.heap x.1 x.2.1 := by
    intro l m q
    induction q with
    | nil => intro as _ _ x hx; cases hx
    | @cons p q ps qs hq t ih =>
      intro as e2 kk x hx
      subst e2
      cases kk with
      | cons k1 k2 =>
        rcases List.mem_cons.mp hx with e3 | hx
        · subst e3
          refine ⟨nk_is I.hok (v := .ref x.2.1) (by rw [← hq.1]; exact k1.1) rfl, by rw [← hq.1]; exact k1.2⟩
        · exact ih _ rfl k2 x hx
  exact all r as e h2 x hx
theorem nd_type {kvs : List (NestedKey × V)} (I : Inv X pins σ H s) (h : NDAt X.prog X.w H d kvs) : s.TypeIs (.ref d) "dict" ∧ (∀ b, Value.ref d = .ref b → ∃ ob, s.heap.get? b = some ob ∧ ob.dict = none) := by
  obtain ⟨_, _, _, _, _, _, _, _, m⟩ := nd_get I h
  refine ⟨m.typeIs, fun b q => ?_⟩
  cases q
  obtain ⟨ob, _, _, h1, h2, _⟩ := m
  exact ⟨ob, h1, h2.2.1⟩
/-- what a store leaves -/
structure NDPut (P : Program) (w : World) (H H' : Hp) (d : Addr) (kvs : List (NestedKey × V)) : Prop where
  at_ : NDAt P w H' d kvs
  keep : ∀ b, b ≠ d → H' b = H b
theorem nd_write {kvs : List (NestedKey × V)} {as : List Addr} {xs : List (NestedKey × Addr × Value)} {v : V} {u : Value} {t' : Nat} {h' : Heap} (I : Inv X pins σ H s) (hd : (d == sysModules) = false) (e1 : H d = some (NDict X.prog X.w d kvs as)) (ka : KeysTk H (kvs.map (·.1)) as) (r : NKr kvs xs) (e : xs.map (fun x => x.2.1) = as) (kk : NK H k (.ref b)) (kd : k.depth ≤ 8) (rv : RelV v u) (hl : kvs.length < sizeLine)
    (m : h'.DictOfH (nestedKind X.prog X.w) d (storedH xs k b u)) (hs : Heap.SameBut d s.heap h') : ∃ H', NDPut X.prog X.w H H' d (putK kvs k v) ∧ Inv X pins σ H' { s with heap := h', toks := t' } := by
  have he : ∃ q, h'.get? d = some q := let ⟨q, _, _, hq, _⟩ := m; ⟨q, hq⟩
  have hl2 : (putK kvs k v).length ≤ sizeLine := by have := length_putK kvs k v; omega
  refine ⟨upd H d (NDict X.prog X.w d (putK kvs k v) ((storedH xs k b u).map fun x => x.2.1)), ⟨⟨_, upd_same, ?_⟩, fun b hb => upd_ne hb⟩, d_write (t' := t') I (by rw [e1]; exact True.intro) hs he (ndict_ok hd hl2 (r.put k rv) rfl m)⟩
  have tk : ∀ c ys, H c = some (.tup ys) → (upd H d (NDict X.prog X.w d (putK kvs k v) ((storedH xs k b u).map fun x => x.2.1))) c = some (.tup ys) := fun c ys q => by
    rw [upd_ne fun z => by rw [z, e1] at q; cases q]
    exact q
  have ka' : KeysTk (upd H d (NDict X.prog X.w d (putK kvs k v) ((storedH xs k b u).map fun x => x.2.1))) (kvs.map (·.1)) as := ka.mono fun k a q => ⟨q.1.tk tk, q.2⟩
  have ee : (kvs.any fun kv => decide (kv.1 = k)) = (atKey xs k).isSome := by rw [valV_any, (r.val k).isSome_eq, Option.isSome_map]
  have pk : putK kvs k v = if (kvs.any fun kv => decide (kv.1 = k)) = true then kvs.map (fun kv => if kv.1 = k then (kv.1, v) else kv) else kvs ++ [(k, v)] := rfl
  have sh : storedH xs k b u = if (atKey xs k).isSome = true then xs.map (putAt k u) else xs ++ [(k, b, u)] := rfl
  by_cases q : (atKey xs k).isSome = true
  · have e2 : (putK kvs k v).map (·.1) = kvs.map (·.1) := by
      rw [pk, if_pos (ee.trans q), List.map_map]
      refine List.map_congr_left fun x _ => ?_
      show (if x.1 = k then (x.1, v) else x).1 = x.1
      split <;> rfl
    have e3 : (storedH xs k b u).map (fun x => x.2.1) = as := by
      rw [sh, if_pos q, List.map_map, ← e]
      refine List.map_congr_left fun x _ => ?_
      show (putAt k u x).2.1 = x.2.1
      unfold putAt
      split <;> rfl
    rw [e2]
    rw [e3] at ka' ⊢
    exact ka'
  · have e2 : (putK kvs k v).map (·.1) = kvs.map (·.1) ++ [k] := by
      rw [pk, if_neg (by rw [ee]; exact q), List.map_append]
      rfl
    have e3 : (storedH xs k b u).map (fun x => x.2.1) = as ++ [b] := by
      rw [sh, if_neg q, List.map_append, e]
      rfl
    rw [e2]
    rw [e3] at ka' tk ⊢
    exact ka'.app (.cons ⟨kk.tk tk, kd⟩ .nil)
end
/-- {} for nested keys -/
def tDNewN (P : Program) (w : World) : TE := fun _ H Q => ∀ p H', H p = none → NDPut P w H H' p [] → Q (.ref p) H'
theorem pe_dnewN {X : Cx} {pos : Pos} : PE X (.Dict [] [] pos) (tDNewN X.prog X.w) := ⟨fun pins s σ H Q I h => by
  have hb : sysModules < s.heap.objs.size := Inv.big I
  have hd : (s.heap.objs.size == sysModules) = false := by
    rw [beq_eq_false_iff_ne]
    exact Nat.ne_of_gt hb
  have new : ObjOk X.prog X.w (upd H s.heap.objs.size (NDict X.prog X.w s.heap.objs.size [] [])) (s.heap.push { cls := .type "dict", data := .dict #[] }) s.heap.objs.size (NDict X.prog X.w s.heap.objs.size [] []) := ndict_ok (xs := []) hd (Nat.zero_le _) .nil rfl (Heap.DictOfH.new s.heap)
  refine wpAny_Dict_empty ⟨.ref s.heap.objs.size, _, I.laid (a := s.heap.objs.size) (t' := s.toks) (fun _ _ q => Heap.get?_push_of_some _ q) (Nat.le_refl _) new, rfl, h _ _ (I.hok.fresh (Nat.le_refl _)) ⟨⟨[], upd_same, .nil⟩, fun b hb => upd_ne hb⟩⟩⟩
theorem room8 {A : Around} {k : Nat} (r : Room k A) : A.in1.units + 8 < cLine := by
  have := r.un
  show A.units + 1 + 8 < cLine
  omega
/-- d.setdefault(y, z), y a nested key -/
def tNSetd (P : Program) (w : World) (td ty tx : TE) : TE := fun σ H Q => td σ H fun x H1 => ∃ a kvs0, x = .ref a ∧ NDAt P w H1 a kvs0 ∧ ty σ H1 fun y H2 => tx σ H2 fun z H3 => ∃ (kvs : List (NestedKey × V)) (k : NestedKey) (b : Addr), NDAt P w H3 a kvs ∧ y = .ref b ∧ NK H3 k (.ref b) ∧ k.depth ≤ 8 ∧ kvs.length < sizeLine ∧
  (∀ v, valV kvs k = some v → Q v H3) ∧ (valV kvs k = none → ∀ H4, NDPut P w H3 H4 a (kvs ++ [(k, z)]) → Q z H4)
section
variable {X : Cx} {o e f i value : Expr} {td ty tx tv : TE} {apos cpos pos pos' : Pos}
theorem pe_nsetd (hu : X.A.in1.units + 8 < cLine) (ho : PE X o td) (he : PE X e ty) (hf : PE X f tx) (m : M2 X o "setdefault" apos e f cpos) : PE X (.Call (.Attribute o "setdefault" apos) [e, f] [] cpos) (tNSetd X.prog X.w td ty tx) := by
  refine ⟨fun pins s σ H Q I h => ?_⟩
  refine wpAny_Call_method m.base m.few m.line PySem.F.plainAttrs_dict PySem.F.slot_dict_setdefault PySem.F.type_dict_setdefault (thn (ho.run pins s σ H _ I h) fun u s1 ⟨x, H1, I1, rx, a, kvs0, ex, d, q1⟩ => ?_)
  subst ex
  obtain rfl : u = Value.ref a := rx
  obtain ⟨t1, t2⟩ := nd_type I1 d
  refine ⟨t1, t2, ?_⟩
  rw [m.trees]
  refine Calls.callWith_builtin rfl (Calls.evalArgs_plain (Calls.spliced_cons (thn (he.run pins s1 σ H1 _ I1 q1) fun iv s2 ⟨y, H2, I2, ry, q2⟩ =>
    Calls.spliced_cons (thn (hf.run pins s2 σ H2 _ I2 q2) fun fv s3 ⟨z, H3, I3, rz, kvs, k, b, nd, ey, hk, hdp, hl, q3, q4⟩ => Calls.spliced_nil ?_))))
  subst ey
  obtain rfl : iv = Value.ref b := ry
  obtain ⟨hd, _, as, xs, e1, ka, r, e2, mm⟩ := nd_get I3 nd
  have hz : xs.length ≤ sizeLine := by
    have := Paired.length r
    omega
  refine call_setdefault_heap (knd := nestedKind X.prog X.w) (k := k) hu ⟨nk_is I3.hok hk rfl, hdp⟩ hd mm (fun p hp => ?_) (fun hn h' m' hs => ?_) hz
  · have q := r.val k
    rw [hp] at q
    cases q0 : valV kvs k with
    | none => rw [q0] at q; exact (show False from q).elim
    | some v0 =>
      rw [q0] at q
      exact ⟨v0, H3, I3.tok _, q, q3 v0 q0⟩
  · have q := r.val k
    rw [hn] at q
    cases q0 : valV kvs k with
    | some v0 => rw [q0] at q; exact (show False from q).elim
    | none =>
      obtain ⟨H4, put, I4⟩ := nd_write (t' := s3.toks + (nestedKind X.prog X.w).draws k) I3 hd e1 ka r e2 hk hdp rz hl m' hs
      rw [putK_new z q0] at put
      exact ⟨z, H4, I4, rz, q4 q0 H4 put⟩
/-- d[y], there -/
def tNGet (P : Program) (w : World) (td ty : TE) : TE := fun σ H Q => td σ H fun x H1 => ty σ H1 fun y H2 => ∃ (a : Addr) (kvs : List (NestedKey × V)) (k : NestedKey) (b : Addr) (v : V), x = .ref a ∧ y = .ref b ∧ NDAt P w H2 a kvs ∧ NK H2 k (.ref b) ∧ k.depth ≤ 8 ∧ valV kvs k = some v ∧ Q v H2
theorem pe_nget (hu : X.A.in1.units + 8 < cLine) (ho : PE X o td) (hi : PE X i ty) (hs : NoSl i) : PE X (.Subscript o i pos) (tNGet X.prog X.w td ty) := by
  refine ⟨fun pins s σ H Q I h => ?_⟩
  refine subD_of PySem.F.slot_dict_getitem.lookup hs (thn (ho.run pins s σ H _ I h) fun u s1 ⟨x, H1, I1, rx, q1⟩ => thn (hi.run pins s1 σ H1 _ I1 q1) fun iv s2 ⟨y, H2, I2, ry, a, kvs, k, b, v, ex, ey, nd, hk, hdp, hv, q2⟩ => ?_)
  subst ex ey
  obtain rfl : u = Value.ref a := rx
  obtain rfl : iv = Value.ref b := ry
  obtain ⟨hd, _, as, xs, e1, ka, r, e2, mm⟩ := nd_get I2 nd
  have q := r.val k
  rw [hv] at q
  cases q0 : (atKey xs k).map (·.2) with
  | none => rw [q0] at q; exact (show False from q).elim
  | some u0 =>
    rw [q0] at q
    obtain ⟨p, hp, rfl⟩ := Option.map_eq_some_iff.mp q0
    exact ⟨mm.typeIs, wpAny_getItem_heap (knd := nestedKind X.prog X.w) hu ⟨nk_is I2.hok hk rfl, hdp⟩ mm hp ⟨v, H2, I2.tok _, q, q2⟩⟩
/-- d[y] = v -/
def sNPut (P : Program) (w : World) (td ty tv : TE) : TS := fun D σ H => tv σ H fun v H1 => td σ H1 fun x H2 => ty σ H2 fun y H3 => ∃ (a : Addr) (kvs : List (NestedKey × V)) (k : NestedKey) (b : Addr), x = .ref a ∧ y = .ref b ∧ NDAt P w H3 a kvs ∧ NK H3 k (.ref b) ∧ k.depth ≤ 8 ∧ kvs.length < sizeLine ∧ ∀ H4, NDPut P w H3 H4 a (putK kvs k v) → D.nx σ H4
theorem ps_nput (hu : X.A.in1.units + 8 < cLine) (ho : PE X o td) (hi : PE X i ty) (hv : PE X value tv) (hs : swapsWith value (some (.Subscript o i pos')) pos.line X.env = pure false) : PS X (.Assign [.Subscript o i pos'] value pos) (sNPut X.prog X.w td ty tv) := by
  refine ⟨fun pins s σ H D I h => ?_⟩
  refine wpAny_Assign_Subscript (thn (hv.run pins s σ H _ I h) fun r s1 ⟨v, H1, I1, rv, q1⟩ => thn (ho.run pins s1 σ H1 _ I1 q1) fun u s2 ⟨x, H2, I2, rx, q2⟩ => thn (hi.run pins s2 σ H2 _ I2 q2) fun iv s3 ⟨y, H3, I3, ry, a, kvs, k, b, ex, ey, nd, hk, hdp, hl, q3⟩ => ?_) hs
  subst ex ey
  obtain rfl : u = Value.ref a := rx
  obtain rfl : iv = Value.ref b := ry
  obtain ⟨hd, _, as, xs, e1, ka, rr, e2, mm⟩ := nd_get I3 nd
  have hz : xs.length ≤ sizeLine := by
    have := Paired.length rr
    omega
  refine wpAny_setItem_heap (knd := nestedKind X.prog X.w) (k := k) hu ⟨nk_is I3.hok hk rfl, hdp⟩ mm (fun h' m' hs' => ?_) hz
  obtain ⟨H4, put, I4⟩ := nd_write (t' := s3.toks + (nestedKind X.prog X.w).draws k) I3 hd e1 ka rr e2 hk hdp rv hl m' hs'
  exact ⟨σ, H4, I4, q3 H4 put⟩
end
/-- len(d) -/
def rLenN (P : Program) (w : World) : List V → Hp → VK → Prop := fun xs H Q => ∃ a kvs, xs = [V.ref a] ∧ NDAt P w H a kvs ∧ Q (.int (kvs.length : Nat)) H
theorem call_lenN {X : Cx} : CallR X (.builtin "len") (rLenN X.prog X.w) := by
  intro pins s σ H xs us Q I r h
  obtain ⟨a, kvs, rfl, nd, q⟩ := h
  obtain ⟨u, rfl, ru⟩ := vals1 r
  obtain rfl : u = .ref a := ru
  obtain ⟨hd, hl, as, xs, e1, ka, rr, e2, mm⟩ := nd_get I nd
  have el : kvs.length = xs.length := Paired.length rr
  refine call_len_dictH (knd := nestedKind X.prog X.w) hd mm (by rw [sizeLine_eq] at hl; omega) ?_
  exact ⟨.int (kvs.length : Nat), H, I.tok _, ⟨_, by rw [el]⟩, q⟩
/-! ### dicts whose keys are True and False (or other plain values) -/
def LK : Leaf → V → Prop
  | .num i, .int j => i = j
  | .num i, .bl b => i = if b = true then 1 else 0
  | .text x, .str z => x = z
  | .none, .non => True
  | _, _ => False
theorem lk_is {k : Leaf} {v : V} {u : Value} (h : LK k v) (r : RelV v u) : Leaf.isOf k u = true := by
  cases k with
  | none =>
    cases v with
    | non => obtain rfl : u = .none := r; rfl
    | _ => exact h.elim
  | num i =>
    cases v with
    | int j =>
      obtain ⟨t, rfl⟩ := r
      obtain rfl : i = j := h
      exact decide_eq_true rfl
    | bl b =>
      obtain rfl : u = .bool b := r
      exact decide_eq_true (Eq.symm h)
    | _ => exact h.elim
  | text x =>
    cases v with
    | str z =>
      obtain ⟨t, rfl⟩ := r
      obtain rfl : x = z := h
      show (x == x) = true
      exact beq_self_eq_true x
    | _ => exact h.elim
def LDict (P : Program) (w : World) (d : Addr) (kvs : List (Leaf × V)) : HO := .ext fun h => (d == sysModules) = false ∧ kvs.length ≤ sizeLine ∧ ∃ vs, KV kvs vs ∧ h.DictOf (leafKind P w) d vs
theorem ldict_ok {P : Program} {w : World} {H : Hp} {h : Heap} {d : Addr} {kvs : List (Leaf × V)} {vs : List (Leaf × Value)} (hd : (d == sysModules) = false) (hl : kvs.length ≤ sizeLine) (r : KV kvs vs) (m : h.DictOf (leafKind P w) d vs) : ObjOk P w H h d (LDict P w d kvs) := by
  have ⟨o, es, ep, h1, _⟩ := m
  refine ⟨⟨hd, hl, vs, r, m⟩, ⟨o, h1⟩, fun g1 g2 p k => ?_⟩
  obtain ⟨a1, a2, us, a3, o', es', ep', b1, b2⟩ := p
  exact ⟨a1, a2, us, a3, o', es', ep', k _ b1, b2⟩
section
variable {X : Cx} {pins : List (Addr × Obj)} {σ : L2.St} {H : Hp} {s : Shared} {d : Addr}
theorem ld_get {kvs : List (Leaf × V)} (I : Inv X pins σ H s) (h : H d = some (LDict X.prog X.w d kvs)) : (d == sysModules) = false ∧ kvs.length ≤ sizeLine ∧ ∃ vs, KV kvs vs ∧ s.heap.DictOf (leafKind X.prog X.w) d vs := by
  obtain ⟨⟨hd, hl, vs, r, m⟩, _, _⟩ := (show ObjOk X.prog X.w H s.heap d (LDict X.prog X.w d kvs) from I.hok d _ h)
  exact ⟨hd, hl, vs, r, m⟩
theorem ld_type {kvs : List (Leaf × V)} (I : Inv X pins σ H s) (h : H d = some (LDict X.prog X.w d kvs)) : s.TypeIs (.ref d) "dict" ∧ (∀ b, Value.ref d = .ref b → ∃ ob, s.heap.get? b = some ob ∧ ob.dict = none) := by
  obtain ⟨_, _, _, _, m⟩ := ld_get I h
  refine ⟨m.typeIs, fun b q => ?_⟩
  cases q
  obtain ⟨ob, _, _, h1, h2, _⟩ := m
  exact ⟨ob, h1, h2.2.1⟩
end
def tDNewL (P : Program) (w : World) : TE := fun _ H Q => ∀ p, H p = none → Q (.ref p) (upd H p (LDict P w p []))
theorem pe_dnewL {X : Cx} {pos : Pos} : PE X (.Dict [] [] pos) (tDNewL X.prog X.w) := ⟨fun pins s σ H Q I h => by
  have hb : sysModules < s.heap.objs.size := Inv.big I
  have hd : (s.heap.objs.size == sysModules) = false := by
    rw [beq_eq_false_iff_ne]
    exact Nat.ne_of_gt hb
  have new : ObjOk X.prog X.w (upd H s.heap.objs.size (LDict X.prog X.w s.heap.objs.size [])) (s.heap.push { cls := .type "dict", data := .dict #[] }) s.heap.objs.size (LDict X.prog X.w s.heap.objs.size []) := ldict_ok (vs := []) hd (Nat.zero_le _) .nil (Heap.DictOf.new s.heap)
  refine wpAny_Dict_empty ⟨.ref s.heap.objs.size, _, I.laid (a := s.heap.objs.size) (t' := s.toks) (fun _ _ q => Heap.get?_push_of_some _ q) (Nat.le_refl _) new, rfl, h _ (I.hok.fresh (Nat.le_refl _))⟩⟩
/-- d.setdefault(y, z), y a plain value -/
def tLSetd (P : Program) (w : World) (td ty tx : TE) : TE := fun σ H Q => td σ H fun x H1 => ∃ a kvs0, x = .ref a ∧ H1 a = some (LDict P w a kvs0) ∧ ty σ H1 fun y H2 => tx σ H2 fun z H3 => ∃ (kvs : List (Leaf × V)) (k : Leaf), H3 a = some (LDict P w a kvs) ∧ LK k y ∧ kvs.length < sizeLine ∧
  (∀ v, valV kvs k = some v → Q v H3) ∧ (valV kvs k = none → Q z (upd H3 a (LDict P w a (kvs ++ [(k, z)]))))
section
variable {X : Cx} {o e f i value : Expr} {td ty tx tv : TE} {apos cpos pos pos' : Pos}
theorem pe_lsetd (ho : PE X o td) (he : PE X e ty) (hf : PE X f tx) (m : M2 X o "setdefault" apos e f cpos) : PE X (.Call (.Attribute o "setdefault" apos) [e, f] [] cpos) (tLSetd X.prog X.w td ty tx) := by
  refine ⟨fun pins s σ H Q I h => ?_⟩
  refine wpAny_Call_method m.base m.few m.line PySem.F.plainAttrs_dict PySem.F.slot_dict_setdefault PySem.F.type_dict_setdefault (thn (ho.run pins s σ H _ I h) fun u s1 ⟨x, H1, I1, rx, a, kvs0, ex, d, q1⟩ => ?_)
  subst ex
  obtain rfl : u = Value.ref a := rx
  obtain ⟨t1, t2⟩ := ld_type I1 d
  refine ⟨t1, t2, ?_⟩
  rw [m.trees]
  refine Calls.callWith_builtin rfl (Calls.evalArgs_plain (Calls.spliced_cons (thn (he.run pins s1 σ H1 _ I1 q1) fun iv s2 ⟨y, H2, I2, ry, q2⟩ =>
    Calls.spliced_cons (thn (hf.run pins s2 σ H2 _ I2 q2) fun fv s3 ⟨z, H3, I3, rz, kvs, k, ha, hk, hl, q3, q4⟩ => Calls.spliced_nil ?_))))
  obtain ⟨hd, _, vs, rel, dd⟩ := ld_get I3 ha
  have hz : vs.length ≤ sizeLine := by
    have := Paired.length rel
    omega
  refine call_meetsIn PySem.F.slot_dict_setdefault dd.typeIs PySem.F.entry_dict_setdefault (PySem.F.args_dict_setdefault_3 _ _ _) (kt_meets_setdefault (leafKind X.prog X.w) (k := k) a (lk_is hk ry) hd fv) ⟨vs, dd, hz, fun v hv => ?_, fun hn h' dd' hs => ?_⟩
  · have q := rel.val k
    rw [hv] at q
    cases q0 : valV kvs k with
    | none => rw [q0] at q; exact (show False from q).elim
    | some v0 => rw [q0] at q; exact ⟨v0, H3, I3.tok _, q, q3 v0 q0⟩
  · have q := rel.val k
    rw [hn] at q
    cases q0 : valV kvs k with
    | some v0 => rw [q0] at q; exact (show False from q).elim
    | none =>
      have hl2 : (putK kvs k z).length ≤ sizeLine := by
        have := length_putK kvs k z
        omega
      have hex : ∃ q, h'.get? a = some q := let ⟨q, _, _, hq, _⟩ := dd'; ⟨q, hq⟩
      have I4 := d_write (t' := s3.toks + 1) I3 (by rw [ha]; exact True.intro) hs hex (ldict_ok hd hl2 (rel.put k rz) dd')
      rw [putK_new z q0] at I4
      exact ⟨z, _, I4, rz, q4 q0⟩
/-- d[y], there -/
def tLGet (P : Program) (w : World) (td ty : TE) : TE := fun σ H Q => td σ H fun x H1 => ty σ H1 fun y H2 => ∃ (a : Addr) (kvs : List (Leaf × V)) (k : Leaf) (v : V), x = .ref a ∧ H2 a = some (LDict P w a kvs) ∧ LK k y ∧ valV kvs k = some v ∧ Q v H2
theorem pe_lget (ho : PE X o td) (hi : PE X i ty) (hs : NoSl i) : PE X (.Subscript o i pos) (tLGet X.prog X.w td ty) := by
  refine ⟨fun pins s σ H Q I h => ?_⟩
  refine subD_of PySem.F.slot_dict_getitem.lookup hs (thn (ho.run pins s σ H _ I h) fun u s1 ⟨x, H1, I1, rx, q1⟩ => thn (hi.run pins s1 σ H1 _ I1 q1) fun iv s2 ⟨y, H2, I2, ry, a, kvs, k, v, ex, ha, hk, hv, q2⟩ => ?_)
  subst ex
  obtain rfl : u = Value.ref a := rx
  obtain ⟨hd, _, vs, rel, dd⟩ := ld_get I2 ha
  have q := rel.val k
  rw [hv] at q
  cases q0 : valueAt vs k with
  | none => rw [q0] at q; exact (show False from q).elim
  | some u0 =>
    rw [q0] at q
    exact ⟨dd.typeIs, wpAny_getItem_of (lk_is hk ry) dd.mapOf q0 ⟨v, H2, I2.tok _, q, q2⟩⟩
end
def rLenL (P : Program) (w : World) : List V → Hp → VK → Prop := fun xs H Q => ∃ a kvs, xs = [V.ref a] ∧ H a = some (LDict P w a kvs) ∧ Q (.int (kvs.length : Nat)) H
theorem call_lenL {X : Cx} : CallR X (.builtin "len") (rLenL X.prog X.w) := by
  intro pins s σ H xs us Q I r h
  obtain ⟨a, kvs, rfl, ha, q⟩ := h
  obtain ⟨u, rfl, ru⟩ := vals1 r
  obtain rfl : u = .ref a := ru
  obtain ⟨hd, hl, vs, rel, dd⟩ := ld_get I ha
  have el : kvs.length = vs.length := Paired.length rel
  refine call_len_dict hd dd (by rw [sizeLine_eq] at hl; omega) ?_
  exact ⟨.int (kvs.length : Nat), H, I.tok _, ⟨_, by rw [el]⟩, q⟩
end My
namespace My
open PySem PySem.Spec PyProof.Rows L2
/-! ### automata in the heap -/
def keyS (s : List Nat) : List L2.Key := s.map fun (n : Nat) => Sum.inl (n : Int)
theorem keyS_inj {a b : List Nat} (h : keyS a = keyS b) : a = b := by
  unfold keyS at h
  refine List.map_inj_right (f := fun (n : Nat) => (Sum.inl (n : Int) : L2.Key)) (fun x y e => ?_) |>.mp h
  have := Sum.inl.inj e
  omega
theorem keyS_kV (s : List Nat) : (keyS s).map kV = natsV s := by
  unfold keyS natsV
  rw [List.map_map]
  rfl
/-- the numbers of the sets -/
def numKo : List (List Nat) → Nat → List (List L2.Key × V)
  | [], _ => []
  | s :: S, o => (keyS s, V.int ((o : Nat) : Int)) :: numKo S (o + 1)
theorem numKo_len : ∀ (S : List (List Nat)) (o : Nat), (numKo S o).length = S.length
  | [], _ => rfl
  | s :: S, o => by rw [numKo, List.length_cons, List.length_cons, numKo_len S]
theorem numKo_snoc : ∀ (S : List (List Nat)) (o : Nat) (s : List Nat), numKo (S ++ [s]) o = numKo S o ++ [(keyS s, V.int ((o + S.length : Nat) : Int))]
  | [], o, s => rfl
  | t :: S, o, s => by
    show _ :: numKo (S ++ [s]) (o + 1) = _ :: (numKo S (o + 1) ++ _)
    rw [numKo_snoc S, List.length_cons, show o + 1 + S.length = o + (S.length + 1) by omega]
theorem numKo_none : ∀ (S : List (List Nat)) (o : Nat) (s : List Nat), s ∉ S → valV (numKo S o) (keyS s) = none
  | [], _, _, _ => rfl
  | t :: S, o, s, h => by
    rw [numKo, valV_neg fun e => h (by rw [keyS_inj e]; exact List.mem_cons_self ..)]
    exact numKo_none S _ s fun k => h (List.mem_cons_of_mem _ k)
theorem numKo_get : ∀ (S : List (List Nat)) (o : Nat) (s : List Nat) (j : Nat), S.Nodup → S[j]? = some s → valV (numKo S o) (keyS s) = some (.int ((o + j : Nat) : Int))
  | t :: S, o, s, 0, _, h => by
    obtain rfl : t = s := Option.some.inj h
    rw [numKo, valV_pos rfl]
    rfl
  | t :: S, o, s, j + 1, nd, h => by
    rw [List.nodup_cons] at nd
    rw [numKo, valV_neg fun e => nd.1 (by rw [keyS_inj e]; exact List.mem_of_getElem? h), numKo_get S (o + 1) s j nd.2 h, show o + 1 + j = o + (j + 1) by omega]
def symK (c : Nat) : L2.Key := Sum.inr ⟨#[c]⟩
theorem symK_inj {c d : Nat} (h : symK c = symK d) : c = d := by
  have e1 : (⟨#[c]⟩ : Str) = ⟨#[d]⟩ := Sum.inr.inj h
  have e2 := congrArg (fun s : Str => s.cps.toList) e1
  exact (List.cons.inj e2).1
/-- the dict of a row of moves -/
def rowK (f : Nat → Option Nat) (cs : List Nat) : List (L2.Key × V) := cs.filterMap fun c => (f c).map fun t => (symK c, V.int ((t : Nat) : Int))
theorem rowK_snoc (f : Nat → Option Nat) (cs : List Nat) (c : Nat) : rowK f (cs ++ [c]) = rowK f cs ++ (match f c with | some t => [(symK c, V.int ((t : Nat) : Int))] | none => []) := by
  unfold rowK
  rw [List.filterMap_append]
  congr 1
  cases h : f c with
  | none => simp [List.filterMap_cons, h]
  | some t => simp [List.filterMap_cons, h]
theorem rowK_congr {f g : Nat → Option Nat} {cs : List Nat} (h : ∀ c ∈ cs, f c = g c) : rowK f cs = rowK g cs := by
  unfold rowK
  induction cs with
  | nil => rfl
  | cons c cs ih =>
    rw [List.filterMap_cons, List.filterMap_cons, h c (List.mem_cons_self ..), ih fun d hd => h d (List.mem_cons_of_mem _ hd)]
theorem rowK_get (f : Nat → Option Nat) : ∀ (cs : List Nat) (c : Nat), valV (rowK f cs) (symK c) = if c ∈ cs then (f c).map fun (t : Nat) => V.int ((t : Nat) : Int) else none
  | [], c => by rw [if_neg (by simp)]; rfl
  | d :: cs, c => by
    have ih := rowK_get f cs c
    unfold rowK at ih ⊢
    rw [List.filterMap_cons]
    by_cases e : c = d
    · subst e
      rw [if_pos (List.mem_cons_self ..)]
      cases h : f c with
      | none =>
        show valV (List.filterMap _ cs) (symK c) = none
        rw [ih]
        split
        · rw [h]; rfl
        · rfl
      | some t => exact valV_pos (p := (symK c, V.int ((t : Nat) : Int))) rfl
    · have mm : (c ∈ d :: cs) ↔ c ∈ cs := by rw [List.mem_cons]; exact ⟨fun h => h.resolve_left e, .inr⟩
      have goal : valV (List.filterMap (fun c => (f c).map fun t => (symK c, V.int ((t : Nat) : Int))) cs) (symK c) = if c ∈ d :: cs then (f c).map fun (t : Nat) => V.int ((t : Nat) : Int) else none := by
        rw [ih]
        by_cases hc : c ∈ cs
        · rw [if_pos hc, if_pos (mm.mpr hc)]
        · rw [if_neg hc, if_neg fun k => hc (mm.mp k)]
      cases h : f d with
      | none => exact goal
      | some t =>
        show valV ((symK d, V.int ((t : Nat) : Int)) :: List.filterMap _ cs) (symK c) = _
        rw [valV_neg (p := (symK d, V.int ((t : Nat) : Int))) fun k => e (symK_inj k).symm]
        exact goal
theorem rowK_len (f : Nat → Option Nat) (cs : List Nat) : (rowK f cs).length ≤ cs.length := by
  unfold rowK
  exact List.length_filterMap_le _ _
/-- a row of moves stands at a value -/
def RowD (H : Hp) (v : V) (f : Nat → Option Nat) : Prop := ∃ d, v = .ref d ∧ H d = some (.dK (rowK f lets4))
theorem RowD.same {H H' : Hp} {v : V} {f : Nat → Option Nat} (s : Same H H') (h : RowD H v f) : RowD H' v f := by
  obtain ⟨d, h1, h2⟩ := h
  exact ⟨d, h1, s _ _ h2⟩
def TpS (H : Hp) (v : V) (s : List Nat) : Prop := ∃ a, v = .ref a ∧ H a = some (.tup (natsV s))
theorem TpS.same {H H' : Hp} {v : V} {l : List Nat} (s : Same H H') (h : TpS H v l) : TpS H' v l := by
  obtain ⟨d, h1, h2⟩ := h
  exact ⟨d, h1, s _ _ h2⟩
/-- all but what stands at some places -/
def KeepX (X : List Addr) (H H' : Hp) : Prop := ∀ b o, H b = some o → b ∉ X → H' b = some o
theorem KeepX.same {X : List Addr} {H H' : Hp} (s : Same H H') : KeepX X H H' := fun b o h _ => s b o h
theorem KeepX.trans {X : List Addr} {H H1 H2 : Hp} (x : KeepX X H H1) (y : KeepX X H1 H2) : KeepX X H H2 := fun b o h n => y b o (x b o h n) n
theorem KeepX.upd {X : List Addr} {H : Hp} {a : Addr} {o : HO} (h : a ∈ X) : KeepX X H (upd H a o) := fun b u q n => by
  rw [upd_ne fun e => n (by rw [e]; exact h)]
  exact q
theorem KeepX.up {X Y : List Addr} {H H' : Hp} (h : KeepX X H H') (s : ∀ a ∈ X, a ∈ Y) : KeepX Y H H' := fun b o q n => h b o q fun k => n (s b k)
theorem stS_rise {e : E} {S : List Nat} {c : Nat} (hr : (gl e 0).fst.Pairwise (· < ·)) : (stS e S c).Pairwise (· < ·) := by
  unfold stS nrS
  refine List.Pairwise.filter _ ?_
  split
  · exact hr
  · exact List.Pairwise.filter _ List.pairwise_lt_range
/-! ### first and last places rise -/
theorem rise_app {xs ys : List Nat} {m : Nat} (h1 : xs.Pairwise (· < ·)) (h2 : ys.Pairwise (· < ·)) (h3 : ∀ x ∈ xs, x < m) (h4 : ∀ y ∈ ys, m ≤ y) : (xs ++ ys).Pairwise (· < ·) := by
  rw [List.pairwise_append]
  exact ⟨h1, h2, fun a ha b hb => Nat.lt_of_lt_of_le (h3 a ha) (h4 b hb)⟩
structure Rise (g : Gl) : Prop where
  fst : g.fst.Pairwise (· < ·)
  lst : g.lst.Pairwise (· < ·)
theorem Rise.seq {a b : Gl} {o n m : Nat} (x : Rise a) (y : Rise b) (wa : Within a o n) (wb : Within b (o + n) m) : Rise (a.seq b) where
  fst := by
    unfold Gl.seq
    refine rise_app (m := o + n) x.fst ?_ (fun i hi => (wa.fst i hi).2) fun i hi => ?_
    · split
      · exact y.fst
      · exact .nil
    · split at hi
      · exact (wb.fst i hi).1
      · cases hi
  lst := by
    unfold Gl.seq
    refine rise_app (m := o + n) ?_ y.lst (fun i hi => ?_) fun i hi => (wb.lst i hi).1
    · split
      · exact x.lst
      · exact .nil
    · split at hi
      · exact (wa.lst i hi).2
      · cases hi
theorem Rise.par {a b : Gl} {o n m : Nat} (x : Rise a) (y : Rise b) (wa : Within a o n) (wb : Within b (o + n) m) : Rise (a.par b) where
  fst := rise_app (m := o + n) x.fst y.fst (fun i hi => (wa.fst i hi).2) fun i hi => (wb.fst i hi).1
  lst := rise_app (m := o + n) x.lst y.lst (fun i hi => (wa.lst i hi).2) fun i hi => (wb.lst i hi).1
mutual
theorem gl_rise : ∀ (e : E) (o : Nat), Rise (gl e o)
  | .eps, o => by rw [gl]; exact ⟨.nil, .nil⟩
  | .sym c, o => by rw [gl]; exact ⟨List.pairwise_singleton _ _, List.pairwise_singleton _ _⟩
  | .maybe e, o => by rw [gl]; exact ⟨(gl_rise e o).fst, (gl_rise e o).lst⟩
  | .many e, o => by rw [gl]; exact ⟨(gl_rise e o).fst, (gl_rise e o).lst⟩
  | .join es, o => by rw [gl]; exact glJ_rise es o
  | .alt es, o => by rw [gl]; exact glA_rise es o
theorem glJ_rise : ∀ (es : List E) (o : Nat), Rise (gl.glJ es o)
  | [], o => by rw [gl.glJ]; exact ⟨.nil, .nil⟩
  | e :: es, o => by rw [gl.glJ]; exact (gl_rise e o).seq (glJ_rise es (o + e.places)) (gl_within e o) (glJ_within es (o + e.places))
theorem glA_rise : ∀ (es : List E) (o : Nat), Rise (gl.glA es o)
  | [], o => by rw [gl.glA]; exact ⟨.nil, .nil⟩
  | e :: es, o => by rw [gl.glA]; exact (gl_rise e o).par (glA_rise es (o + e.places)) (gl_within e o) (glA_within es (o + e.places))
end
/-! ### rows of naturals as data -/
theorem ne_nil_dp {xs : List Nat} (h : xs ≠ []) : PyData.eqv (.tuple (xs.map fun (n : Nat) => PyData.int (n : Int))) (.tuple []) = false := by
  cases xs with
  | nil => exact absurd rfl h
  | cons x xs => simp [PyData.eqv, PyData.eqvAll]
def psd (ns : List Nat) : List PyData := ns.map fun (n : Nat) => PyData.int (n : Int)
theorem dpAll_ints {K : PySem.W.Frag} {H : Hp} : ∀ ns : List Nat, DpAll K H (natsV ns) (psd ns)
  | [] => .nil
  | n :: ns => .cons (.int _) (dpAll_ints ns)
theorem psd_lay : ∀ ns : List Nat, PyData.canLayAll0 (psd ns) = true
  | [] => rfl
  | n :: ns => by
    show (PyData.canLay0 (.int (n : Int)) && PyData.canLayAll0 (psd ns)) = true
    rw [psd_lay ns]
    rfl
theorem psd_dep : ∀ ns : List Nat, PyData.depthAll (psd ns) = 0
  | [] => rfl
  | n :: ns => by
    show max (PyData.depth (.int (n : Int))) (PyData.depthAll (psd ns)) = 0
    rw [psd_dep ns]
    rfl
theorem tup_shaped (ns : List Nat) : SeqAt.shaped (.tuple (psd ns)) = true := by
  show (PyData.canLay0 (.tuple (psd ns)) && decide (PyData.depth (.tuple (psd ns)) ≤ 64)) = true
  have h1 : PyData.canLay0 (.tuple (psd ns)) = true := psd_lay ns
  have h2 : PyData.depth (.tuple (psd ns)) = PyData.depthAll (psd ns) + 1 := by simp [PyData.depth]
  rw [h1, h2, psd_dep]
  rfl
theorem psd_eqv : ∀ a b : List Nat, PyData.eqvAll (psd a) (psd b) = decide (a = b)
  | [], [] => by simp [psd, PyData.eqvAll]
  | [], y :: b => by simp [psd, PyData.eqvAll]
  | x :: a, [] => by simp [psd, PyData.eqvAll]
  | x :: a, y :: b => by
    have ih := psd_eqv a b
    show PyData.eqvAll (.int (x : Int) :: psd a) (.int (y : Int) :: psd b) = _
    simp only [PyData.eqvAll, PyData.eqv, ih]
    rw [Bool.eq_iff_iff]
    simp
    intro _
    omega
theorem row_eqv (a b : List Nat) : PyData.eqv (.tuple (psd a)) (.tuple (psd b)) = decide (a = b) := by
  rw [← psd_eqv]
  simp only [PyData.eqv]
theorem in_nats (x : Nat) (ys : List Nat) : inV (V.int (x : Int)) (natsV ys) = decide (x ∈ ys) := by
  unfold inV natsV
  rw [Bool.eq_iff_iff]
  simp [eqV]
  constructor
  · rintro ⟨y, hy, h⟩
    have e : y = x := by omega
    rw [← e]
    exact hy
  · exact fun h => ⟨x, h, rfl⟩
theorem flat_nats (ys : List Nat) : (natsV ys).all flatV = true := by
  rw [List.all_eq_true]
  intro v hv
  obtain ⟨i, _, rfl⟩ := List.mem_map.mp hv
  rfl
def rInB (K : PySem.W.Frag) : R2 := rIn K false
theorem op_in_seqB {X : Cx} {K : PySem.W.Frag} (hK : X.K = K) : OpR X (compareOp .In) (rInB K) := by
  subst hK
  exact op_in_seq
theorem list_shaped (ns : List Nat) : SeqAt.shaped (.list (psd ns)) = true := by
  show (PyData.canLay0 (.list (psd ns)) && decide (PyData.depth (.list (psd ns)) ≤ 64)) = true
  have h1 : PyData.canLay0 (.list (psd ns)) = true := psd_lay ns
  have h2 : PyData.depth (.list (psd ns)) = PyData.depthAll (psd ns) + 1 := by simp [PyData.depth]
  rw [h1, h2, psd_dep]
  rfl
theorem natl_eqv (a b : List Nat) : PyData.eqv (.list (psd a)) (.list (psd b)) = decide (a = b) := by
  rw [← psd_eqv]
  simp only [PyData.eqv]
/-! ### lists that rise -/
theorem rise_eq : ∀ {xs ys : List Nat}, xs.Pairwise (· < ·) → ys.Pairwise (· < ·) → (∀ x, x ∈ xs ↔ x ∈ ys) → xs = ys
  | [], [], _, _, _ => rfl
  | [], y :: ys, _, _, h => absurd ((h y).mpr (List.mem_cons_self ..)) (by simp)
  | x :: xs, [], _, _, h => absurd ((h x).mp (List.mem_cons_self ..)) (by simp)
  | x :: xs, y :: ys, h1, h2, h => by
    rw [List.pairwise_cons] at h1 h2
    have e1 : x = y := by
      have a1 := (h x).mp (List.mem_cons_self ..)
      have a2 := (h y).mpr (List.mem_cons_self ..)
      rcases List.mem_cons.mp a1 with q | q
      · exact q
      · rcases List.mem_cons.mp a2 with r | r
        · exact r.symm
        · have := h1.1 y r
          have := h2.1 x q
          omega
    subst e1
    congr 1
    refine rise_eq h1.2 h2.2 fun z => ⟨fun hz => ?_, fun hz => ?_⟩
    · rcases List.mem_cons.mp ((h z).mp (List.mem_cons_of_mem _ hz)) with q | q
      · have := h1.1 z hz
        omega
      · exact q
    · rcases List.mem_cons.mp ((h z).mpr (List.mem_cons_of_mem _ hz)) with q | q
      · have := h2.1 z hz
        omega
      · exact q
theorem stS_of {e : E} {S ys : List Nat} (h0 : S ≠ []) (hr : ys.Pairwise (· < ·)) (hm : ∀ y, y ∈ ys ↔ ∃ x ∈ S, (x, y) ∈ (gl e 0).fol) : nrS e S = ys := by
  unfold nrS
  rw [if_neg h0]
  refine rise_eq (List.Pairwise.filter _ List.pairwise_lt_range) hr fun y => ?_
  rw [List.mem_filter, List.mem_range, List.any_eq_true, hm]
  constructor
  · rintro ⟨_, x, hx, h⟩
    exact ⟨x, hx, of_decide_eq_true h⟩
  · rintro ⟨x, hx, h⟩
    exact ⟨by have := ((gl_within e 0).fol x y h).2; omega, x, hx, decide_eq_true h⟩
theorem Bfs.rise {e : E} {S : List (List Nat)} {mv : Mv} {i k : Nat} (B : Bfs e S mv i k) : ∀ s ∈ S, s.Pairwise (· < ·) := fun s hs => by
  obtain ⟨t, ht⟩ := List.mem_iff_getElem?.mp hs
  have hl := (List.getElem?_eq_some_iff.mp ht).1
  rcases Nat.eq_zero_or_pos t with rfl | h0
  · rw [B.h0] at ht
    cases ht
    exact .nil
  · obtain ⟨m, _, h2, _⟩ := B.num t h0 hl
    obtain ⟨_, _, _, s', _, h4, _⟩ := B.mv1 _ _ _ (show mv (m / 4) (97 + m % 4) = some t from h2)
    rw [ht] at h4
    cases h4
    exact stS_rise (gl_rise e 0).fst
theorem riseN_len {xs : List Nat} {n : Nat} (hr : xs.Pairwise (· < ·)) (hb : ∀ x ∈ xs, x < n) : xs.length ≤ n := by
  have := (List.Nodup.sublist (List.Sublist.refl _) (hr.imp fun h => Nat.ne_of_lt h) : xs.Nodup)
  induction n generalizing xs with
  | zero =>
    cases xs with
    | nil => exact Nat.le_refl _
    | cons x xs => exact absurd (hb x (List.mem_cons_self ..)) (Nat.not_lt_zero _)
  | succ n ih =>
    have h1 := ih (xs := xs.filter fun x => decide (x ≠ n)) (hr.filter _) (fun x hx => by
      rw [List.mem_filter, decide_eq_true_eq] at hx
      have := hb x hx.1
      omega) (this.filter _)
    have h2 : xs.length ≤ (xs.filter fun x => decide (x ≠ n)).length + 1 := by
      clear ih h1 hb hr
      induction xs with
      | nil => exact Nat.zero_le _
      | cons x xs ih =>
        rw [List.nodup_cons] at this
        rw [List.filter_cons, List.length_cons]
        by_cases e : x = n
        · rw [if_neg (by rw [decide_eq_false (by simpa using e)]; exact Bool.false_ne_true)]
          have : xs.filter (fun x => decide (x ≠ n)) = xs := List.filter_eq_self.mpr fun y hy => decide_eq_true fun q => this.1 (by rw [e, ← q]; exact hy)
          rw [this]
          exact Nat.le_refl _
        · rw [if_pos (decide_eq_true e), List.length_cons]
          exact Nat.succ_le_succ (ih this.2)
    omega
/-! ### how many lists rise -/
theorem nodup_subA {α : Type} [DecidableEq α] : ∀ (l ys : List α), l.Nodup → (∀ x ∈ l, x ∈ ys) → l.length ≤ ys.length
  | [], _, _, _ => Nat.zero_le _
  | x :: l, ys, nd, h => by
    rw [List.nodup_cons] at nd
    have hx := h x (List.mem_cons_self ..)
    have ih := nodup_subA l (ys.erase x) nd.2 fun y hy => (List.mem_erase_of_ne fun e => nd.1 (by rw [← e]; exact hy)).mpr (h y (List.mem_cons_of_mem _ hy))
    rw [List.length_erase_of_mem hx] at ih
    have : 0 < ys.length := List.length_pos_of_mem hx
    rw [List.length_cons]
    omega
def subsN : Nat → List (List Nat)
  | 0 => [[]]
  | n + 1 => subsN n ++ (subsN n).map (· ++ [n])
theorem subsN_len : ∀ n, (subsN n).length = 2 ^ n
  | 0 => rfl
  | n + 1 => by
    rw [subsN, List.length_append, List.length_map, subsN_len n, Nat.pow_succ]
    omega
theorem subsN_mem : ∀ (n : Nat) (xs : List Nat), xs.Pairwise (· < ·) → (∀ x ∈ xs, x < n) → xs ∈ subsN n
  | 0, xs, _, hb => by
    cases xs with
    | nil => exact List.mem_singleton.mpr rfl
    | cons x xs => exact absurd (hb x (List.mem_cons_self ..)) (Nat.not_lt_zero _)
  | n + 1, xs, hr, hb => by
    rw [subsN, List.mem_append, List.mem_map]
    rcases List.eq_nil_or_concat xs with h | ⟨ys, x, h⟩
    · subst h
      exact .inl (subsN_mem n [] .nil fun x hx => by cases hx)
    · rw [List.concat_eq_append] at h
      subst h
      rw [List.pairwise_append] at hr
      have hlt : ∀ y ∈ ys, y < x := fun y hy => hr.2.2 y hy x (List.mem_singleton.mpr rfl)
      have hx := hb x (List.mem_append_right _ (List.mem_singleton.mpr rfl))
      by_cases e : x = n
      · subst e
        exact .inr ⟨ys, subsN_mem x ys hr.1 hlt, rfl⟩
      · refine .inl (subsN_mem n _ ?_ fun y hy => ?_)
        · rw [List.pairwise_append]
          exact hr
        · rcases List.mem_append.mp hy with h | h
          · have := hlt y h
            omega
          · have := List.mem_singleton.mp h
            omega
theorem Bfs.len {e : E} {S : List (List Nat)} {mv : Mv} {i k : Nat} (B : Bfs e S mv i k) : S.length ≤ 2 ^ e.places := by
  rw [← subsN_len]
  exact nodup_subA _ _ B.nd fun s hs => subsN_mem _ _ (B.rise s hs) (B.bd s hs)
theorem Bfs.len256 {e : E} {S : List (List Nat)} {mv : Mv} {i k : Nat} (B : Bfs e S mv i k) (h : e.places ≤ 8) : S.length ≤ 256 := Nat.le_trans B.len (Nat.pow_le_pow_right (by decide) h)
theorem u64 {k : Nat} {A : Around} (h : Room k A) : A.units + 64 < cLine := by
  have := h.un
  omega
theorem u65 {k : Nat} {A : Around} (h : Room k A) : A.units + 65 < cLine := by
  have := h.un
  omega
/-! ### numbers of what comes, as dicts -/
section
variable {κ : Type} [DecidableEq κ]
def numG : List κ → Nat → List (κ × V)
  | [], _ => []
  | s :: S, o => (s, V.int ((o : Nat) : Int)) :: numG S (o + 1)
theorem numG_len : ∀ (S : List κ) (o : Nat), (numG S o).length = S.length
  | [], _ => rfl
  | s :: S, o => by rw [numG, List.length_cons, List.length_cons, numG_len S]
theorem numG_snoc : ∀ (S : List κ) (o : Nat) (s : κ), numG (S ++ [s]) o = numG S o ++ [(s, V.int ((o + S.length : Nat) : Int))]
  | [], o, s => rfl
  | t :: S, o, s => by
    show _ :: numG (S ++ [s]) (o + 1) = _ :: (numG S (o + 1) ++ _)
    rw [numG_snoc S, List.length_cons, show o + 1 + S.length = o + (S.length + 1) by omega]
theorem numG_none : ∀ (S : List κ) (o : Nat) (s : κ), s ∉ S → valV (numG S o) s = none
  | [], _, _, _ => rfl
  | t :: S, o, s, h => by
    rw [numG, valV_neg (p := (t, V.int ((o : Nat) : Int))) fun e => h (by rw [show t = s from e]; exact List.mem_cons_self ..)]
    exact numG_none S _ s fun k => h (List.mem_cons_of_mem _ k)
theorem numG_idx : ∀ (S : List κ) (o : Nat) (s : κ), s ∈ S → valV (numG S o) s = some (.int ((o + S.idxOf s : Nat) : Int))
  | t :: S, o, s, h => by
    by_cases e : t = s
    · subst e
      rw [numG, valV_pos (p := (t, V.int ((o : Nat) : Int))) rfl, List.idxOf_cons_self]
      rfl
    · rw [numG, valV_neg (p := (t, V.int ((o : Nat) : Int))) e, numG_idx S (o + 1) s ((List.mem_cons.mp h).resolve_left fun q => e q.symm), List.idxOf_cons, beq_false_of_ne e]
      show some (V.int _) = some (V.int ((o + (S.idxOf s + 1) : Nat) : Int))
      rw [show o + 1 + S.idxOf s = o + (S.idxOf s + 1) by omega]
theorem firstsL_old {ks : List κ} {k : κ} (h : k ∈ ks) : firstsL (ks ++ [k]) = firstsL ks := by
  rw [firstsL_snoc]
  unfold addA
  rw [if_pos ((mem_firstsL ks k).mpr h)]
theorem firstsL_new {ks : List κ} {k : κ} (h : k ∉ ks) : firstsL (ks ++ [k]) = firstsL ks ++ [k] := by
  rw [firstsL_snoc]
  unfold addA
  rw [if_neg fun q => h ((mem_firstsL ks k).mp q)]
end
/-! ### the same within a comprehension -/
theorem pe_lgetB {X : Cx} {P : Program} {w : World} {o i : Expr} {td ty : TE} {pos : Pos} (hP : X.prog = P) (hw : X.w = w) (ho : PE X o td) (hi : PE X i ty) (hs : NoSl i) : PE X (.Subscript o i pos) (tLGet P w td ty) := by
  subst hP hw
  exact pe_lget ho hi hs
theorem pe_ngetB {X : Cx} {P : Program} {w : World} {o i : Expr} {td ty : TE} {pos : Pos} (hP : X.prog = P) (hw : X.w = w) (hu : X.A.in1.units + 8 < cLine) (ho : PE X o td) (hi : PE X i ty) (hs : NoSl i) : PE X (.Subscript o i pos) (tNGet P w td ty) := by
  subst hP hw
  exact pe_nget hu ho hi hs
/-! ### for i, x in enumerate of a list -/
theorem for_enumL {K : PySem.W.Frag} {a : Addr} {xs : List V} {g : TG} {tb : TS} {D : Ends} {σ : L2.St} {H : Hp} (Pv : Nat → L2.St → Hp → Prop) (h0 : Pv 0 σ H) (hl : ∀ i σ H, i ≤ xs.length → Pv i σ H → SqL K H a xs)
    (hs : ∀ i x T σ H, xs[i]? = some x → Pv i σ H → H T = none → g (.ref T) σ (upd H T (.tup [.int (i : Nat), x])) fun σ2 H2 => tb { D with nx := Pv (i + 1), ct := Pv (i + 1), bk := D.nx } σ2 H2) (hd : ∀ σ H, Pv xs.length σ H → D.nx σ H) :
    ∃ W : Nat → Nat → L2.St → Hp → Prop, (∃ m, W 0 m σ H) ∧ ∀ i m σ H, W i m σ H →
      ((Ite K a).stop i H ∧ D.nx σ H) ∨ ((Ite K a).go i H ∧ ∃ N : L2.St → Hp → Prop, (∀ σ' H', N σ' H' → ∃ m', m' < m ∧ W (i + 1) m' σ' H') ∧ ∀ x H', (Ite K a).yld i H x H' → g x σ H' fun σ2 H2 => tb { D with nx := N, ct := N, bk := D.nx } σ2 H2) := by
  refine ⟨fun i m σ H => m = xs.length - i ∧ i ≤ xs.length ∧ Pv i σ H, ⟨xs.length, by simp, Nat.zero_le _, h0⟩, ?_⟩
  rintro i m σ H ⟨rfl, hi, p⟩
  have hq := hl i σ H hi p
  by_cases hlt : i < xs.length
  · refine .inr ⟨⟨xs, _, hq, List.getElem?_eq_getElem hlt⟩, Pv (i + 1), fun σ' H' p' => ⟨xs.length - (i + 1), by omega, rfl, hlt, p'⟩, fun v H' y => ?_⟩
    obtain ⟨T, x, rfl, hT, rfl, hx⟩ := y
    exact hs i x T σ _ (hx xs hq) p hT
  · have e : i = xs.length := by omega
    subst e
    exact .inl ⟨⟨xs, hq, Nat.le_refl _⟩, hd σ H p⟩
/-! ### a dict's comprehension over any walk -/
theorem dc_w {J : It} {n : Nat} {G : Hp → Prop} {Y : Nat → Hp → V → Hp → Prop} (Wk : Walk J n G Y) {g : TG} {tt : TT} {tk tv : TE} {vs : List Nat} {σ : L2.St} {H1 : Hp} {D : Addr} {Qd : Hp → Prop} (Pv : Nat → Hp → Prop) (h0 : Pv 0 (upd H1 D (.dK []))) (hg : ∀ i H, i ≤ n → Pv i H → G H)
    (hs : ∀ i x H H', i < n → Pv i H → Y i H x H' → g x (wipe σ vs) H' fun σ2 H2 => wipe σ2 vs = wipe σ vs ∧ tt σ2 H2 fun b H3 => if b = true then tk σ2 H3 fun y H4 => tv σ2 H4 fun z H5 => ∃ kvs k, y = kV k ∧ H5 D = some (.dK kvs) ∧ kvs.length < sizeLine ∧ Pv (i + 1) (upd H5 D (.dK (putK kvs k z))) else Pv (i + 1) H3)
    (hd : ∀ H, Pv n H → Qd H) : ∃ W : Nat → Nat → Hp → Prop, (∃ m, W 0 m (upd H1 D (.dK []))) ∧ ∀ i m H, W i m H → (J.stop i H ∧ Qd H) ∨ (J.go i H ∧ ∃ Nx : Hp → Prop, (∀ H', Nx H' → ∃ m', m' < m ∧ W (i + 1) m' H') ∧ ∀ x H', J.yld i H x H' → g x (wipe σ vs) H' fun σ2 H2 => wipe σ2 vs = wipe σ vs ∧ tt σ2 H2 fun b H3 => if b = true then tk σ2 H3 fun y H4 => tv σ2 H4 fun z H5 => ∃ kvs k, y = kV k ∧ H5 D = some (.dK kvs) ∧ kvs.length < sizeLine ∧ Nx (upd H5 D (.dK (putK kvs k z))) else Nx H3) := by
  refine ⟨fun i m H => i + m = n ∧ Pv i H, ⟨n, Nat.zero_add _, h0⟩, fun i m H h => ?_⟩
  have hG := hg i H (by omega) h.2
  cases m with
  | zero =>
    have e : i = n := h.1
    subst e
    exact .inl ⟨Wk.stops H hG, hd H h.2⟩
  | succ m =>
    have hi : i < n := by
      have := h.1
      omega
    exact .inr ⟨Wk.goes i H hi hG, Pv (i + 1), fun H' p => ⟨m, Nat.lt_succ_self m, by have := h.1; omega, p⟩, fun x H' y => hs i x H H' hi h.2 (Wk.yields i H x H' hi hG y)⟩
theorem idx_at : ∀ {a : List Nat} {i x : Nat}, a[i]? = some x → x ∉ a.take i → a.idxOf x = i
  | [], _, _, h, _ => by cases h
  | y :: a, 0, x, h, _ => by
    obtain rfl : y = x := Option.some.inj h
    exact List.idxOf_cons_self
  | y :: a, i + 1, x, h, n => by
    have ih := idx_at (a := a) (i := i) (x := x) h fun k => n (List.mem_cons_of_mem _ k)
    have hne : y ≠ x := fun k => n (by rw [k]; exact List.mem_cons_self ..)
    rw [List.idxOf_cons, beq_false_of_ne hne, ih]
    rfl
theorem ends_eq {e : E} {S : List (List Nat)} {mv : Mv} {i k : Nat} (B : Bfs e S mv i k) : (List.range S.length).map (endsOf e S) = (gl e 0).nul :: (S.drop 1).map fun s => s.any fun i => decide (i ∈ (gl e 0).lst) := by
  match S, B.h0, B.nd with
  | s :: S, h0, nd =>
    obtain rfl : s = [] := Option.some.inj h0
    rw [List.nodup_cons] at nd
    rw [List.length_cons, List.range_succ_eq_map, List.map_cons, List.map_map]
    have e0 : endsOf e ([] :: S) 0 = (gl e 0).nul := by
      unfold endsOf endS
      rw [if_pos (show ([] :: S).getD 0 [] = [] from rfl)]
    rw [e0]
    congr 1
    show _ = S.map fun s => s.any fun i => decide (i ∈ (gl e 0).lst)
    refine List.ext_getElem? fun j => ?_
    rw [List.getElem?_map, List.getElem?_map]
    rcases Nat.lt_or_ge j S.length with hj | hj
    · rw [List.getElem?_range hj, List.getElem?_eq_getElem hj]
      show some (endsOf e ([] :: S) (j + 1)) = some _
      congr 1
      unfold endsOf endS
      have e1 : ([] :: S).getD (j + 1) [] = S[j] := getD_of (by show S[j]? = some _; exact List.getElem?_eq_getElem hj)
      rw [e1, if_neg fun h => nd.1 (by rw [← h]; exact List.getElem_mem hj)]
    · rw [List.getElem?_eq_none (by rw [List.length_range]; exact hj), List.getElem?_eq_none hj]
      rfl
theorem cut_loV (g : List V) (k : Nat) : cutV g (some (k : Int)) none = g.drop k := by
  unfold cutV
  rw [HT.sIx_none, HT.sIx_nat]
  by_cases h : k ≤ g.length
  · rw [Nat.min_eq_left h, List.take_of_length_le (by rw [List.length_drop]; omega)]
  · rw [Nat.min_eq_right (by omega), Nat.sub_self, List.take_zero, List.drop_eq_nil_of_le (by omega)]
/-! ### rows whose states are told anew -/
theorem putK_at {κ : Type} [DecidableEq κ] {kvs : List (κ × V)} {k : κ} (v : V) (h : k ∉ kvs.map (·.1)) : putK kvs k v = kvs ++ [(k, v)] := by
  refine putK_new v ?_
  induction kvs with
  | nil => rfl
  | cons kv kvs ih =>
    rw [List.map_cons, List.mem_cons, not_or] at h
    rw [valV_neg fun e => h.1 e.symm]
    exact ih h.2
theorem rowK_nd (f : Nat → Option Nat) : ∀ {cs : List Nat}, cs.Nodup → ((rowK f cs).map (·.1)).Nodup
  | [], _ => .nil
  | c :: cs, h => by
    rw [List.nodup_cons] at h
    have ih := rowK_nd f h.2
    unfold rowK at ih ⊢
    rw [List.filterMap_cons]
    cases hc : f c with
    | none => exact ih
    | some t =>
      show (symK c :: ((List.filterMap (fun c => (f c).map fun t => (symK c, V.int ((t : Nat) : Int))) cs).map (·.1))).Nodup
      rw [List.nodup_cons]
      refine ⟨fun k => h.1 ?_, ih⟩
      obtain ⟨kv, h1, h2⟩ := List.mem_map.mp k
      obtain ⟨d, hd, h3⟩ := List.mem_filterMap.mp h1
      obtain ⟨t', _, rfl⟩ := Option.map_eq_some_iff.mp h3
      rw [← symK_inj h2]
      exact hd
theorem rowK_mem {f : Nat → Option Nat} {cs : List Nat} {kv : L2.Key × V} (h : kv ∈ rowK f cs) : ∃ c t, kv = (symK c, V.int ((t : Nat) : Int)) ∧ f c = some t := by
  obtain ⟨d, _, h3⟩ := List.mem_filterMap.mp h
  obtain ⟨t, h4, rfl⟩ := Option.map_eq_some_iff.mp h3
  exact ⟨d, t, rfl, h4⟩
def reV (a : List Nat) : V → V
  | .int t => .int ((a.getD t.toNat 0 : Nat) : Int)
  | v => v
theorem rowK_map (f : Nat → Option Nat) (a : List Nat) (cs : List Nat) : (rowK f cs).map (fun kv => (kv.1, reV a kv.2)) = rowK (fun c => (f c).map fun i => a.getD i 0) cs := by
  unfold rowK
  rw [List.map_filterMap]
  congr 1
  funext c
  cases h : f c with
  | none => simp [h]
  | some t => simp [h, reV]
theorem lets4_nd : lets4.Nodup := by decide
theorem cntR_le (a : List Nat) : cntR a ≤ a.length := by
  have key : ∀ k, k ≤ a.length → cntR (a.take k) ≤ k := by
    intro k
    induction k with
    | zero => exact fun _ => Nat.zero_le _
    | succ k ih =>
      intro hk
      have ih := ih (by omega)
      rw [take_snoc (List.getElem?_eq_getElem (by omega)), cntR_snoc]
      split <;> omega
  have := key a.length (Nat.le_refl _)
  rw [List.take_length] at this
  exact this
theorem cut_hiV (g : List V) (k : Nat) : cutV g none (some (k : Int)) = g.take k := by
  unfold cutV
  rw [HT.sIx_none, HT.sIx_nat, List.drop_zero, Nat.sub_zero]
  by_cases h : k ≤ g.length
  · rw [Nat.min_eq_left h]
  · rw [Nat.min_eq_right (by omega), List.take_of_length_le (Nat.le_refl _), List.take_of_length_le (by omega)]
theorem sum_take_leN (l : List Nat) (n : Nat) : (l.take n).sum ≤ l.sum := by
  have h : (l.take n ++ l.drop n).sum = l.sum := by rw [List.take_append_drop]
  rw [List.sum_append] at h
  omega
end My
namespace My
open PySem PySem.Spec PyProof.Rows L2
/-! ### defs with defaults -/
structure DfD (K : PySem.W.Frag) (mg : Str → Option Value) (x : Str) (st : Stmt) (ps : List Str) (dvs : List V) (f : Addr) (fd : FuncData) : Prop where
  F : FunD K x x (defArgs st) (defBody st) (defScope st) dvs [] f fd
  b0 : Binds K fd ps []
  bd : ∃ ds, Vals dvs ds ∧ Binds K fd ps ds
  g : mg x = some (.ref f)
theorem DfD.mk1 {K : PySem.W.Frag} {mg : Str → Option Value} {x : Str} {st : Stmt} {ps : List Str} {dvs : List V} {f : Addr} {fd : FuncData} (F : FunD K x x (defArgs st) (defBody st) (defScope st) dvs [] f fd) (g : mg x = some (.ref f)) (n : Nat) (hd : dvs ≠ []) (hn : n + dvs.length = ps.length)
    (h1 : ∀ (T : Addr) (kV doc pm : Value) (an : Option Addr) (cdv ct : Value) (us its : List Value), us.length = n → its.length = dvs.length →
      ∃ k, bindArgs (PySem.W.fnOf x x (defArgs st) (defBody st) (defScope st) (.ref T) kV doc pm an cdv ct) ⟨us, []⟩ = seqItems? (.ref T) >>= k ∧ k (some its.toArray) = pure (ps.zip (us ++ its)))
    (h0 : ∀ (T : Addr) (kV doc pm : Value) (an : Option Addr) (cdv ct : Value) (us its : List Value), us.length = ps.length → its.length = dvs.length →
      ∃ k, bindArgs (PySem.W.fnOf x x (defArgs st) (defBody st) (defScope st) (.ref T) kV doc pm an cdv ct) ⟨us, []⟩ = seqItems? (.ref T) >>= k ∧ k (some its.toArray) = pure (ps.zip us)) : DfD K mg x st ps dvs f fd where
  F := F
  b0 := by
    obtain ⟨ds, v, b⟩ := F.binds1 (ps := ps) ps.length dvs.length hd (by omega) fun T kV doc pm an cdv ct us its l1 l2 => by
      obtain ⟨k, e1, e2⟩ := h0 T kV doc pm an cdv ct us its l1 l2
      exact ⟨k, e1, by rw [← l2, List.drop_length, List.append_nil]; exact e2⟩
    rw [List.drop_length] at v
    cases v
    exact b
  bd := by
    obtain ⟨ds, v, b⟩ := F.binds1 (ps := ps) n 0 hd (by omega) fun T kV doc pm an cdv ct us its l1 l2 => h1 T kV doc pm an cdv ct us its l1 l2
    exact ⟨ds, v, b⟩
  g := g
theorem DfD.ok {P : Program} {w : World} {K : PySem.W.Frag} {mg : Str → Option Value} {base : Heap} {x : Str} {st : Stmt} {N ps : List Str} {dvs : List V} {f : Addr} {fd : FuncData} {k : Nat} {sp : Sp} (D : DfD K mg x st ps dvs f fd) (S : FnScope N ps (defScope st)) (len : ∀ vs H Q E, sp vs H Q E → vs.length = ps.length)
    (hbody : ∀ (cdv : Value) (A : Around) (outer : List Env) (s : Shared) (H : Hp) (vs : List V) (Q : VK) (E : XK), Room k (A.deeper (envOfC x (defScope st) s.heap.objs.size f cdv)) → sp vs H Q E →
      ∃ t, PSs (cxOf CX0 P w K mg base N x (defScope st) f cdv A outer s H E).nox (defBody st) t ∧ t { nx := fun _ H' => Q .non H', rt := Q } (start N vs) H) : FnOk P w K mg base CX0 (k + 1) f fd ps sp :=
  D.F.ok S len fun cdv A outer s H vs Q E hr hsp => by
    obtain ⟨t, h, q⟩ := hbody cdv A outer s H vs Q E hr hsp
    exact ⟨t, h.nox, q⟩
structure ClD (P : Program) (w : World) (K : PySem.W.Frag) (mg : Str → Option Value) (base : Heap) (k : Nat) (x : Str) (ps : List Str) (dvs : List V) (sp : Sp) : Prop where
  ex : ∃ (f : Addr) (fd : FuncData) (ds : List Value), FnOk P w K mg base CX0 k f fd ps sp ∧ Vals dvs ds ∧ Binds K fd ps ds ∧ mg x = some (.ref f) ∧ PySem.W.keepIn K (.ref f) = true
section
variable {P : Program} {w : World} {K : PySem.W.Frag} {mg : Str → Option Value} {base : Heap} {x : Str} {st : Stmt} {ps : List Str} {dvs : List V} {f : Addr} {fd : FuncData} {k k' : Nat} {sp : Sp}
theorem DfD.cl (D : DfD K mg x st ps dvs f fd) (h : FnOk P w K mg base CX0 k f fd ps sp) : Cl P w K mg base k x ps sp := ⟨f, fd, h, D.b0, D.g, D.F.kp⟩
theorem DfD.clD (D : DfD K mg x st ps dvs f fd) (h : FnOk P w K mg base CX0 k f fd ps sp) : ClD P w K mg base k x ps dvs sp := by
  obtain ⟨ds, v, b⟩ := D.bd
  exact ⟨f, fd, ds, h, v, b, D.g, D.F.kp⟩
theorem ClD.up (c : ClD P w K mg base k x ps dvs sp) (h : k ≤ k') : ClD P w K mg base k' x ps dvs sp := by
  obtain ⟨f, fd, ds, F, v, b, m, kp⟩ := c.ex
  exact ⟨f, fd, ds, ⟨F.len, fun A outer s H args us vs Q E hr => F.run A outer s H args us vs Q E (hr.mono h)⟩, v, b, m, kp⟩
end
theorem pe_clD {X : Cx} {k : Nat} {x : Str} {ps : List Str} {dvs : List V} {sp : Sp} {p pos : Pos} {e : Expr} {es : List Expr} {t : TA} (C : ClD X.prog X.w X.K X.mg X.base k x ps dvs sp) (hr : Room k X.A) (hg : L2.Gl X x) (ha : PA X (e :: es) t)
    (hdb : (x == ("__debug__" : Str)) = false := by decide) (he : starEach (e :: es) X.env = (false, eval e X.env) :: starEach es X.env := by rfl) (hpl : (backTo pos (starEach es X.env)).any (·.1) = false := by rfl) :
    PE X (.Call (.Name x p) (e :: es) [] pos) (tCall sp dvs E0 t) := by
  obtain ⟨f, fd, ds, F, v, b, m, kp⟩ := C.ex
  exact pe_call F hr hg m kp b v pass0 ha hdb he hpl
/-! ### methods -/
/-- a method of the text, of the class at C -/
structure DfM (K : PySem.W.Frag) (C : Addr) (m q : Str) (st : Stmt) (ps : List Str) (f : Addr) (fd : FuncData) : Prop where
  F : Fun K m q st f fd
  b : Binds K fd ps []
  me : Meth K C m f
  c : Cls K C
structure Mt (P : Program) (w : World) (K : PySem.W.Frag) (mg : Str → Option Value) (base : Heap) (k : Nat) (C : Addr) (m : Str) (ps : List Str) (sp : Sp) : Prop where
  ex : ∃ (f : Addr) (fd : FuncData), FnOk P w K mg base CX0 k f fd ps sp ∧ Binds K fd ps [] ∧ Meth K C m f ∧ Cls K C
theorem DfM.mt {P : Program} {w : World} {K : PySem.W.Frag} {mg : Str → Option Value} {base : Heap} {C : Addr} {m q : Str} {st : Stmt} {ps : List Str} {f : Addr} {fd : FuncData} {k : Nat} {sp : Sp} (D : DfM K C m q st ps f fd) (h : FnOk P w K mg base CX0 k f fd ps sp) : Mt P w K mg base k C m ps sp := ⟨f, fd, h, D.b, D.me, D.c⟩
theorem Mt.up {P : Program} {w : World} {K : PySem.W.Frag} {mg : Str → Option Value} {base : Heap} {C : Addr} {m : Str} {ps : List Str} {k k' : Nat} {sp : Sp} (c : Mt P w K mg base k C m ps sp) (h : k ≤ k') : Mt P w K mg base k' C m ps sp := by
  obtain ⟨f, fd, F, b, me, cc⟩ := c.ex
  exact ⟨f, fd, ⟨F.len, fun A outer s H args us vs Q E hr => F.run A outer s H args us vs Q E (hr.mono h)⟩, b, me, cc⟩
theorem pe_mtC {X : Cx} {k : Nat} {C : Addr} {m : Str} {ps : List Str} {sp : Sp} {o e : Expr} {es : List Expr} {ta : TE} {t : TA} {apos pos : Pos} {pl : Sem Bool} (h : Mt X.prog X.w X.K X.mg X.base k C m ps sp) (hr : Room k X.A) (ho : PE X o ta) (ha : PA X (e :: es) t)
    (hst : starEach (e :: es) X.env = (false, eval e X.env) :: starEach es X.env := by rfl) (hpl : (backTo pos (starEach es X.env)).any (·.1) = false := by rfl)
    (ht : eval (.Call (.Attribute o m apos) (e :: es) [] pos) X.env = (do
      let ov ← eval o X.env
      standAt apos.atName
      let (f, first) ← holding [ov] (getMethod ov m pl)
      callWith pos f first (backTo pos (starEach (e :: es) X.env)) (backToKw pos (keywordEach [] X.env))) := by rfl) :
    PE X (.Call (.Attribute o m apos) (e :: es) [] pos) (tMeth C m sp [] E0 ta t) := by
  obtain ⟨f, fd, F, b, me, c⟩ := h.ex
  exact pe_meth ho c me F hr b .nil pass0 ha hst hpl ht
theorem pe_mtC0 {X : Cx} {k : Nat} {C : Addr} {m : Str} {ps : List Str} {sp : Sp} {o : Expr} {ta : TE} {apos pos : Pos} {pl : Sem Bool} (h : Mt X.prog X.w X.K X.mg X.base k C m ps sp) (hr : Room k X.A) (ho : PE X o ta)
    (ht : eval (.Call (.Attribute o m apos) [] [] pos) X.env = (do
      let ov ← eval o X.env
      standAt apos.atName
      let (f, first) ← holding [ov] (getMethod ov m pl)
      callWith pos f first (backTo pos (starEach [] X.env)) (backToKw pos (keywordEach [] X.env))) := by rfl) :
    PE X (.Call (.Attribute o m apos) [] [] pos) (tMeth C m sp [] E0 ta tNil) := by
  obtain ⟨f, fd, F, b, me, c⟩ := h.ex
  exact pe_meth0 ho c me F hr b .nil pass0 ht
end My
namespace My
open PySem PySem.Spec PyProof.Rows L2
/-! ### comprehensions whose results are known by the turns -/
theorem sqT_same {K : PySem.W.Frag} {H H' : Hp} {p : Addr} {xs : List V} (s : Same H H') (h : SqT K H p xs) : SqT K H' p xs := by
  rcases h with (h | ⟨o, h⟩) | h
  · exact .inl (.inl (s _ _ h))
  · exact .inl (.inr ⟨o, s _ _ h⟩)
  · exact .inr h
/-- one more result -/
theorem r_push {H1 H H4 : Hp} {D : Addr} {R : Nat → List V} {i : Nat} (hz : ∀ i, (R i).length ≤ 100000) (hD : H1 D = none) (s : Same H1 H) (h : H D = some (.lst (R i))) : ∀ y H4, R (i + 1) = R i ++ [y] → Same H H4 → ∃ acc, H4 D = some (.lst acc) ∧ acc.length < sizeLine ∧ Same H1 (upd H4 D (.lst (acc ++ [y]))) ∧ (upd H4 D (.lst (acc ++ [y]))) D = some (.lst (R (i + 1))) := by
  intro y H4 e s4
  refine ⟨_, s4 _ _ h, Nat.lt_of_le_of_lt (hz i) (by decide), fun b o hb => ?_, ?_⟩
  · rw [upd_ne (ne_of_none hb hD)]
    exact s4 _ _ (s _ _ hb)
  · rw [upd_same, e]
theorem r_keep {H1 H : Hp} {D : Addr} {R : Nat → List V} {i : Nat} (s : Same H1 H) (h : H D = some (.lst (R i))) : ∀ H4, R (i + 1) = R i → Same H H4 → Same H1 H4 ∧ H4 D = some (.lst (R (i + 1))) := by
  intro H4 e s4
  exact ⟨s.trans s4, by rw [e]; exact s4 _ _ h⟩
theorem lc_tupR {K : PySem.W.Frag} {a : Addr} {xs : List V} {g : TG} {tt : TT} {te : TE} {vs : List Nat} {σ : L2.St} {H1 : Hp} {D : Addr} {Qd : Hp → Prop} (R : Nat → List V) (h0 : R 0 = []) (hz : ∀ i, (R i).length ≤ 100000) (hD : H1 D = none) (ha : SqT K H1 a xs) 
    (hs : ∀ i x H, xs[i]? = some x → Same H1 H → (∀ y H4, R (i + 1) = R i ++ [y] → Same H H4 → ∃ acc, H4 D = some (.lst acc) ∧ acc.length < sizeLine ∧ Same H1 (upd H4 D (.lst (acc ++ [y]))) ∧ (upd H4 D (.lst (acc ++ [y]))) D = some (.lst (R (i + 1)))) → (∀ H4, R (i + 1) = R i → Same H H4 → Same H1 H4 ∧ H4 D = some (.lst (R (i + 1)))) →
      g x (wipe σ vs) H fun σ2 H2 => wipe σ2 vs = wipe σ vs ∧ tt σ2 H2 fun b H3 => if b = true then te σ2 H3 fun y H4 => ∃ acc, H4 D = some (.lst acc) ∧ acc.length < sizeLine ∧ Same H1 (upd H4 D (.lst (acc ++ [y]))) ∧ (upd H4 D (.lst (acc ++ [y]))) D = some (.lst (R (i + 1))) else Same H1 H3 ∧ H3 D = some (.lst (R (i + 1))))
    (hd : ∀ H, Same H1 H → H D = some (.lst (R xs.length)) → Qd H) :
    ∃ W : Nat → Nat → Hp → Prop, (∃ m, W 0 m (upd H1 D (.lst []))) ∧ ∀ i m H, W i m H →
      ((Itt K a).stop i H ∧ Qd H) ∨ ((Itt K a).go i H ∧ ∃ Nx : Hp → Prop, (∀ H', Nx H' → ∃ m', m' < m ∧ W (i + 1) m' H') ∧ ∀ x H', (Itt K a).yld i H x H' → g x (wipe σ vs) H' fun σ2 H2 => wipe σ2 vs = wipe σ vs ∧ tt σ2 H2 fun b H3 =>
        if b = true then te σ2 H3 fun y H4 => ∃ acc, H4 D = some (.lst acc) ∧ acc.length < sizeLine ∧ Nx (upd H4 D (.lst (acc ++ [y]))) else Nx H3) := by
  have fin : ∀ {i : Nat} {H : Hp}, Same H1 H → H D = some (.lst (R i)) → ∀ y H4, R (i + 1) = R i ++ [y] → Same H H4 → ∃ acc, H4 D = some (.lst acc) ∧ acc.length < sizeLine ∧ Same H1 (upd H4 D (.lst (acc ++ [y]))) ∧ (upd H4 D (.lst (acc ++ [y]))) D = some (.lst (R (i + 1))) := fun s h => r_push (H4 := H1) hz hD s h
  have fin0 : ∀ {i : Nat} {H : Hp}, Same H1 H → H D = some (.lst (R i)) → ∀ H4, R (i + 1) = R i → Same H H4 → Same H1 H4 ∧ H4 D = some (.lst (R (i + 1))) := fun s h => r_keep s h
  exact lc_tup (K := K) (a := a) (xs := xs) (fun i H' => Same H1 H' ∧ H' D = some (.lst (R i))) ⟨same_upd hD, by rw [upd_same, h0]⟩ (fun i H _ h => sqT_same h.1 ha) (fun i x H hx h => hs i x H hx h.1 (fin h.1 h.2) (fin0 h.1 h.2)) (fun H h => hd H h.1 h.2)
theorem lc_listR {K : PySem.W.Frag} {a : Addr} {xs : List V} {g : TG} {tt : TT} {te : TE} {vs : List Nat} {σ : L2.St} {H1 : Hp} {D : Addr} {Qd : Hp → Prop} (R : Nat → List V) (h0 : R 0 = []) (hz : ∀ i, (R i).length ≤ 100000) (hD : H1 D = none) (ha : SqL K H1 a xs) 
    (hs : ∀ i x H, xs[i]? = some x → Same H1 H → (∀ y H4, R (i + 1) = R i ++ [y] → Same H H4 → ∃ acc, H4 D = some (.lst acc) ∧ acc.length < sizeLine ∧ Same H1 (upd H4 D (.lst (acc ++ [y]))) ∧ (upd H4 D (.lst (acc ++ [y]))) D = some (.lst (R (i + 1)))) → (∀ H4, R (i + 1) = R i → Same H H4 → Same H1 H4 ∧ H4 D = some (.lst (R (i + 1)))) →
      g x (wipe σ vs) H fun σ2 H2 => wipe σ2 vs = wipe σ vs ∧ tt σ2 H2 fun b H3 => if b = true then te σ2 H3 fun y H4 => ∃ acc, H4 D = some (.lst acc) ∧ acc.length < sizeLine ∧ Same H1 (upd H4 D (.lst (acc ++ [y]))) ∧ (upd H4 D (.lst (acc ++ [y]))) D = some (.lst (R (i + 1))) else Same H1 H3 ∧ H3 D = some (.lst (R (i + 1))))
    (hd : ∀ H, Same H1 H → H D = some (.lst (R xs.length)) → Qd H) :
    ∃ W : Nat → Nat → Hp → Prop, (∃ m, W 0 m (upd H1 D (.lst []))) ∧ ∀ i m H, W i m H →
      ((Itl K a).stop i H ∧ Qd H) ∨ ((Itl K a).go i H ∧ ∃ Nx : Hp → Prop, (∀ H', Nx H' → ∃ m', m' < m ∧ W (i + 1) m' H') ∧ ∀ x H', (Itl K a).yld i H x H' → g x (wipe σ vs) H' fun σ2 H2 => wipe σ2 vs = wipe σ vs ∧ tt σ2 H2 fun b H3 =>
        if b = true then te σ2 H3 fun y H4 => ∃ acc, H4 D = some (.lst acc) ∧ acc.length < sizeLine ∧ Nx (upd H4 D (.lst (acc ++ [y]))) else Nx H3) := by
  have fin : ∀ {i : Nat} {H : Hp}, Same H1 H → H D = some (.lst (R i)) → ∀ y H4, R (i + 1) = R i ++ [y] → Same H H4 → ∃ acc, H4 D = some (.lst acc) ∧ acc.length < sizeLine ∧ Same H1 (upd H4 D (.lst (acc ++ [y]))) ∧ (upd H4 D (.lst (acc ++ [y]))) D = some (.lst (R (i + 1))) := fun s h => r_push (H4 := H1) hz hD s h
  have fin0 : ∀ {i : Nat} {H : Hp}, Same H1 H → H D = some (.lst (R i)) → ∀ H4, R (i + 1) = R i → Same H H4 → Same H1 H4 ∧ H4 D = some (.lst (R (i + 1))) := fun s h => r_keep s h
  exact lc_list (K := K) (a := a) (xs := xs) (fun i H' => Same H1 H' ∧ H' D = some (.lst (R i))) ⟨same_upd hD, by rw [upd_same, h0]⟩ (fun i H _ h => h.1.seq ha) (fun i x H hx h => hs i x H hx h.1 (fin h.1 h.2) (fin0 h.1 h.2)) (fun H h => hd H h.1 h.2)
theorem lc_rangeR {lo : Int} {n : Nat} {g : TG} {tt : TT} {te : TE} {vs : List Nat} {σ : L2.St} {H1 : Hp} {D : Addr} {Qd : Hp → Prop} (R : Nat → List V) (h0 : R 0 = []) (hz : ∀ i, (R i).length ≤ 100000) (hD : H1 D = none) 
    (hs : ∀ i H, i < n → Same H1 H → (∀ y H4, R (i + 1) = R i ++ [y] → Same H H4 → ∃ acc, H4 D = some (.lst acc) ∧ acc.length < sizeLine ∧ Same H1 (upd H4 D (.lst (acc ++ [y]))) ∧ (upd H4 D (.lst (acc ++ [y]))) D = some (.lst (R (i + 1)))) → (∀ H4, R (i + 1) = R i → Same H H4 → Same H1 H4 ∧ H4 D = some (.lst (R (i + 1)))) →
      g (.int (lo + (i : Nat))) (wipe σ vs) H fun σ2 H2 => wipe σ2 vs = wipe σ vs ∧ tt σ2 H2 fun b H3 => if b = true then te σ2 H3 fun y H4 => ∃ acc, H4 D = some (.lst acc) ∧ acc.length < sizeLine ∧ Same H1 (upd H4 D (.lst (acc ++ [y]))) ∧ (upd H4 D (.lst (acc ++ [y]))) D = some (.lst (R (i + 1))) else Same H1 H3 ∧ H3 D = some (.lst (R (i + 1))))
    (hd : ∀ H, Same H1 H → H D = some (.lst (R n)) → Qd H) :
    ∃ W : Nat → Nat → Hp → Prop, (∃ m, W 0 m (upd H1 D (.lst []))) ∧ ∀ i m H, W i m H →
      ((Itr lo n).stop i H ∧ Qd H) ∨ ((Itr lo n).go i H ∧ ∃ Nx : Hp → Prop, (∀ H', Nx H' → ∃ m', m' < m ∧ W (i + 1) m' H') ∧ ∀ x H', (Itr lo n).yld i H x H' → g x (wipe σ vs) H' fun σ2 H2 => wipe σ2 vs = wipe σ vs ∧ tt σ2 H2 fun b H3 =>
        if b = true then te σ2 H3 fun y H4 => ∃ acc, H4 D = some (.lst acc) ∧ acc.length < sizeLine ∧ Nx (upd H4 D (.lst (acc ++ [y]))) else Nx H3) := by
  have fin : ∀ {i : Nat} {H : Hp}, Same H1 H → H D = some (.lst (R i)) → ∀ y H4, R (i + 1) = R i ++ [y] → Same H H4 → ∃ acc, H4 D = some (.lst acc) ∧ acc.length < sizeLine ∧ Same H1 (upd H4 D (.lst (acc ++ [y]))) ∧ (upd H4 D (.lst (acc ++ [y]))) D = some (.lst (R (i + 1))) := fun s h => r_push (H4 := H1) hz hD s h
  have fin0 : ∀ {i : Nat} {H : Hp}, Same H1 H → H D = some (.lst (R i)) → ∀ H4, R (i + 1) = R i → Same H H4 → Same H1 H4 ∧ H4 D = some (.lst (R (i + 1))) := fun s h => r_keep s h
  exact lc_range (lo := lo) (n := n) (fun i H' => Same H1 H' ∧ H' D = some (.lst (R i))) ⟨same_upd hD, by rw [upd_same, h0]⟩  (fun i H hx h => hs i H hx h.1 (fin h.1 h.2) (fin0 h.1 h.2)) (fun H h => hd H h.1 h.2)
theorem lc_strR {z : Str} {g : TG} {tt : TT} {te : TE} {vs : List Nat} {σ : L2.St} {H1 : Hp} {D : Addr} {Qd : Hp → Prop} (R : Nat → List V) (h0 : R 0 = []) (hz : ∀ i, (R i).length ≤ 100000) (hD : H1 D = none) 
    (hs : ∀ i c H, z.cps[i]? = some c → Same H1 H → (∀ y H4, R (i + 1) = R i ++ [y] → Same H H4 → ∃ acc, H4 D = some (.lst acc) ∧ acc.length < sizeLine ∧ Same H1 (upd H4 D (.lst (acc ++ [y]))) ∧ (upd H4 D (.lst (acc ++ [y]))) D = some (.lst (R (i + 1)))) → (∀ H4, R (i + 1) = R i → Same H H4 → Same H1 H4 ∧ H4 D = some (.lst (R (i + 1)))) →
      g (.str ⟨#[c]⟩) (wipe σ vs) H fun σ2 H2 => wipe σ2 vs = wipe σ vs ∧ tt σ2 H2 fun b H3 => if b = true then te σ2 H3 fun y H4 => ∃ acc, H4 D = some (.lst acc) ∧ acc.length < sizeLine ∧ Same H1 (upd H4 D (.lst (acc ++ [y]))) ∧ (upd H4 D (.lst (acc ++ [y]))) D = some (.lst (R (i + 1))) else Same H1 H3 ∧ H3 D = some (.lst (R (i + 1))))
    (hd : ∀ H, Same H1 H → H D = some (.lst (R z.cps.size)) → Qd H) :
    ∃ W : Nat → Nat → Hp → Prop, (∃ m, W 0 m (upd H1 D (.lst []))) ∧ ∀ i m H, W i m H →
      ((Its z).stop i H ∧ Qd H) ∨ ((Its z).go i H ∧ ∃ Nx : Hp → Prop, (∀ H', Nx H' → ∃ m', m' < m ∧ W (i + 1) m' H') ∧ ∀ x H', (Its z).yld i H x H' → g x (wipe σ vs) H' fun σ2 H2 => wipe σ2 vs = wipe σ vs ∧ tt σ2 H2 fun b H3 =>
        if b = true then te σ2 H3 fun y H4 => ∃ acc, H4 D = some (.lst acc) ∧ acc.length < sizeLine ∧ Nx (upd H4 D (.lst (acc ++ [y]))) else Nx H3) := by
  have fin : ∀ {i : Nat} {H : Hp}, Same H1 H → H D = some (.lst (R i)) → ∀ y H4, R (i + 1) = R i ++ [y] → Same H H4 → ∃ acc, H4 D = some (.lst acc) ∧ acc.length < sizeLine ∧ Same H1 (upd H4 D (.lst (acc ++ [y]))) ∧ (upd H4 D (.lst (acc ++ [y]))) D = some (.lst (R (i + 1))) := fun s h => r_push (H4 := H1) hz hD s h
  have fin0 : ∀ {i : Nat} {H : Hp}, Same H1 H → H D = some (.lst (R i)) → ∀ H4, R (i + 1) = R i → Same H H4 → Same H1 H4 ∧ H4 D = some (.lst (R (i + 1))) := fun s h => r_keep s h
  exact lc_str (z := z) (fun i H' => Same H1 H' ∧ H' D = some (.lst (R i))) ⟨same_upd hD, by rw [upd_same, h0]⟩  (fun i c H hx h => hs i c H hx h.1 (fin h.1 h.2) (fin0 h.1 h.2)) (fun H h => hd H h.1 h.2)
theorem cut_whole {xs : List V} {lo hi : Option Int} (h : HT.sIx xs.length 0 lo = 0 ∧ HT.sIx xs.length xs.length hi = xs.length) : cutV xs lo hi = xs := by
  unfold cutV
  rw [h.1, h.2, List.drop_zero, Nat.sub_zero, List.take_length]
theorem slA_of {K : PySem.W.Frag} {H : Hp} {a : Addr} {xs : List V} {lo hi : Option Int} {Q : VK} (h : H a = some (.tup xs)) (k : ∀ p H', Same H H' → H' p = some (.tup (cutV xs lo hi)) → Q (.ref p) H') : rSlA K (.ref a) lo hi H Q := by
  refine ⟨a, xs, rfl, SqT.of h, fun e => ?_, fun _ p hp => k p _ (same_upd hp) upd_same⟩
  exact k a H (Same.refl _) (by rw [cut_whole e]; exact h)
theorem slA_lo {K : PySem.W.Frag} {H : Hp} {a : Addr} {xs : List V} {lo : Option Int} {σ : L2.St} {Q : VK} (h : H a = some (.tup xs)) (k : ∀ p H', Same H H' → H' p = some (.tup (cutV xs lo none)) → Q (.ref p) H') : tNoPart σ H (fun u H3 => rSlA K (.ref a) lo u H3 Q) := slA_of (hi := none) h k
theorem catA_of {K : PySem.W.Frag} {H : Hp} {a b : Addr} {xs ys : List V} {Q : VK} (ha : H a = some (.tup xs)) (hb : H b = some (.tup ys)) (hz : xs.length + ys.length ≤ sizeLine) (k : ∀ p H', Same H H' → H' p = some (.tup (xs ++ ys)) → Q (.ref p) H') : rCatA K (.ref a) (.ref b) H Q := by
  refine ⟨a, b, xs, ys, rfl, rfl, SqT.of ha, SqT.of hb, hz, fun e => ?_, fun _ e => ?_, fun _ _ p hp => k p _ (same_upd hp) upd_same⟩
  · exact k b H (Same.refl _) (by rw [e]; exact hb)
  · exact k a H (Same.refl _) (by rw [e, List.append_nil]; exact ha)
/-! ### plain data that draws leave -/
theorem RepJ.up {H : Hp} {v : V} {j : J} {n : Nat} (h : RepJ H v j n) : RepJ H v j (n + 1) := by
  induction h with
  | non => exact .non
  | bl b => exact .bl b
  | int i => exact .int i
  | str z => exact .str z
  | tup h z l _ ih => exact .tup h z l ih
  | lst h z l _ ih => exact .lst h z l ih
def Kp (a : Addr) (H : Hp) (v : V) (j : J) (n : Nat) : Prop := ∀ H', Keep a H H' → RepJ H' v j n
theorem Kp.rep {a : Addr} {H : Hp} {v : V} {j : J} {n : Nat} (h : Kp a H v j n) : RepJ H v j n := h H (Keep.refl a H)
theorem Kp.keep {a : Addr} {H H' : Hp} {v : V} {j : J} {n : Nat} (k : Keep a H H') (h : Kp a H v j n) : Kp a H' v j n := fun H2 k2 => h H2 (k.trans k2)
theorem Kp.same {a : Addr} {H H' : Hp} {v : V} {j : J} {n : Nat} (k : Same H H') (h : Kp a H v j n) : Kp a H' v j n := h.keep (Keep.same k)
theorem Kp.up {a : Addr} {H : Hp} {v : V} {j : J} {n : Nat} (h : Kp a H v j n) : Kp a H v j (n + 1) := fun H2 k2 => (h H2 k2).up
theorem Kp.tup {a p : Addr} {H : Hp} {xs : List V} {js : List J} {n : Nat} (hp : H p = some (.tup xs)) (ne : p ≠ a) (hz : xs.length ≤ 100000) (two : Two (fun x j => Kp a H x j n) xs js) : Kp a H (.ref p) (.tup js) (n + 1) := fun H2 k2 => .tup (k2 _ _ hp ne) hz two.len fun i x j hx hj => two.get2 hx hj H2 k2
theorem Kp.lst {a p : Addr} {H : Hp} {xs : List V} {js : List J} {n : Nat} (hp : H p = some (.lst xs)) (ne : p ≠ a) (hz : xs.length ≤ 100000) (two : Two (fun x j => Kp a H x j n) xs js) : Kp a H (.ref p) (.lst js) (n + 1) := fun H2 k2 => .lst (k2 _ _ hp ne) hz two.len fun i x j hx hj => two.get2 hx hj H2 k2
def Leaf (v : V) : Prop := v = .non ∨ (∃ b, v = .bl b) ∨ (∃ i, v = .int i) ∨ ∃ z, v = .str z
theorem Leaf.kp {a : Addr} {H : Hp} {v : V} (h : Leaf v) (n : Nat) : ∃ j, Kp a H v j n := by
  rcases h with rfl | ⟨b, rfl⟩ | ⟨i, rfl⟩ | ⟨z, rfl⟩
  · exact ⟨.non, fun _ _ => .non⟩
  · exact ⟨.bl b, fun _ _ => .bl b⟩
  · exact ⟨.int i, fun _ _ => .int i⟩
  · exact ⟨.str z, fun _ _ => .str z⟩
theorem kp_all {a : Addr} {H : Hp} {n : Nat} : ∀ {xs : List V}, (∀ x ∈ xs, ∃ j, Kp a H x j n) → ∃ js, Two (fun x j => Kp a H x j n) xs js
  | [], _ => ⟨[], .nil⟩
  | x :: xs, h => by
    obtain ⟨j, hj⟩ := h x (List.mem_cons_self ..)
    obtain ⟨js, hs⟩ := kp_all fun y hy => h y (List.mem_cons_of_mem _ hy)
    exact ⟨j :: js, .cons hj hs⟩
theorem kp_tup {a p : Addr} {H : Hp} {xs : List V} {n : Nat} (hs : Strm H a) (hp : H p = some (.tup xs)) (hz : xs.length ≤ 100000) (h : ∀ x ∈ xs, ∃ j, Kp a H x j n) : ∃ j, Kp a H (.ref p) j (n + 1) := by
  obtain ⟨js, two⟩ := kp_all h
  exact ⟨_, Kp.tup hp (hs.neT hp) hz two⟩
theorem kp_lst {a p : Addr} {H : Hp} {xs : List V} {n : Nat} (ne : p ≠ a) (hp : H p = some (.lst xs)) (hz : xs.length ≤ 100000) (h : ∀ x ∈ xs, ∃ j, Kp a H x j n) : ∃ j, Kp a H (.ref p) j (n + 1) := by
  obtain ⟨js, two⟩ := kp_all h
  exact ⟨_, Kp.lst hp ne hz two⟩
theorem mem_cut {xs : List V} {lo hi : Option Int} {x : V} (h : x ∈ cutV xs lo hi) : x ∈ xs := by
  unfold cutV at h
  exact List.mem_of_mem_drop (List.mem_of_mem_take h)
/-- an item that is drawn -/
theorem at_draw {xs : List V} {d : Int} {n : Nat} (hl : xs.length = n) (h0 : 0 ≤ d) (h1 : d < n) : ∃ v, atI xs d = some v ∧ v ∈ xs := by
  obtain ⟨v, hv⟩ : ∃ v, xs[d.toNat]? = some v := ⟨_, List.getElem?_eq_getElem (by omega)⟩
  exact ⟨v, at_of (j := d.toNat) (by omega) hv, List.mem_of_getElem? hv⟩
end My
namespace My
open PySem PySem.Spec PyProof.Rows L2
/-! ### a dict that is made where it is walked: it is locked from then on -/
def tFrz (t : TE) : TE := fun σ H Q => t σ H fun x H1 => ∃ d u, x = .ref d ∧ H1 d = some u ∧ Mut (some u) ∧ ∀ od, Q (.ref d) (upd H1 d (.frz od u))
theorem pe_frz {X : Cx} {e : Expr} {t : TE} (h : PE X e t) : PE X e (tFrz t) := by
  refine ⟨fun pins s σ H Q I hw => ?_⟩
  refine thn (h.run pins s σ H _ I hw) fun v s1 ⟨x, H1, I1, r, d, u, e1, hd, mu, q⟩ => ?_
  subst e1
  obtain ⟨od, I2⟩ := I1.lock hd mu
  exact ⟨.ref d, _, I2, r, q od⟩
end My
set_option maxHeartbeats 1000000
namespace My
open PySem PySem.Spec PyProof.Rows L2
/-! ### reversed(text) -/
theorem vs_norev : typeLookup (.type "str") "__reversed__" = pure none := by rw [typeLookup_type, builtinLookup_eq_fast]; kernel_rfl
theorem vs_get : typeLookup (.type "str") "__getitem__" = pure (some (.builtin "str.__getitem__")) := by rw [typeLookup_type, builtinLookup_eq_fast]; kernel_rfl
theorem vs_sub : isSubtype (.type "str") (.type "dict") = pure false := by rw [isSubtype_type]; kernel_rfl
def vsObj (x : Str) (t : Tok) (i : Int) : Obj := { cls := .type "reversed", data := .fields #[.str x t, rawInt i] }
/-- reversed(x), the next place i -/
def IsVs (h : Heap) (a : Addr) (x : Str) (t : Tok) (i : Int) : Prop := ∃ o, h.get? a = some o ∧ o.cls = .type "reversed" ∧ o.data = .fields #[.str x t, rawInt i]
theorem IsVs.at {h h' : Heap} {a : Addr} {x : Str} {t : Tok} {i : Int} (y : IsVs h a x t i) (e : ∀ o, h.get? a = some o → h'.get? a = some o) : IsVs h' a x t i := let ⟨o, ho, r⟩ := y; ⟨o, e _ ho, r⟩
section
variable {prog : Program} {w : World} {A : Around} {E : Value → Shared → Prop} {s : Shared}
theorem IsVs.typeIs {a : Addr} {x : Str} {t : Tok} {i : Int} (y : IsVs s.heap a x t i) : s.TypeIs (.ref a) "reversed" := let ⟨o, ho, hc, _⟩ := y; ⟨o, ho, hc⟩
theorem vs_code {x : Str} {t : Tok} {Q₁ : Value → Shared → Prop} (hz : x.length ≤ sizeLine)
    (h : Q₁ (.ref s.heap.objs.size) { s with heap := s.heap.push (vsObj x t ((x.length : Int) - 1)), toks := s.toks + 1 + 1 }) :
    codeAny (model prog w) A (.call (.builtin "reversed.__new__") ⟨[.type "reversed", .str x t], []⟩) (wants Q₁ E) s := by
  have hT : s.TypeIs (.str x t) "str" := typeIs_str s x t
  have hn := line63
  refine codeAny_of_tree ?_
  show wpAny _ A.in1 (do checkBuiltinCall "reversed.__new__" ⟨[.type "reversed", .str x t], []⟩; again (.builtin "reversed.__new__" ⟨[.type "reversed", .str x t], []⟩)) _ _ s
  refine wpAny_bind (wpAny_of_eq (F.newCall_reversed_1 _) (wpAny_pure ⟨plainId_quiet F.plain_reversed_new _, codeAny_builtin F.entry_reversed_new ?_⟩))
  rw [Around.under_plainId F.plain_reversed_new _]
  unfold Builtin.«reversed.__new__»
  refine wpAny_bind (wpAny_of_eq (newClass_reversed _) ?_)
  try dsimp only
  refine wpAny_bind (wpAny_of_eq (a := ()) (by first | rfl | kernel_rfl) ?_)
  try dsimp only
  refine wpAny_bind (wpAny_of_eq (a := ()) (by first | rfl | kernel_rfl) ?_)
  try dsimp only
  refine wpAny_bind (wpAny_specialOf hT vs_norev ?_)
  try dsimp only
  refine wpAny_bind ?_
  wp_delta
  refine wpAny_bind (wpAny_isInstance (T := "str") (U := "dict") (b := false) hT vs_sub ?_)
  try dsimp only
  try rw [if_neg Bool.false_ne_true]
  try dsimp only
  refine wpAny_bind (wpAny_specialOf hT vs_get ?_)
  try dsimp only
  try rw [if_pos (by decide +kernel)]
  refine wpAny_pure ?_
  try dsimp only
  try rw [if_neg (by decide)]
  try dsimp only
  refine wpAny_bind (P.len_str (by omega) ?_)
  refine wpAny_bind (wpAny_of_eq (a := some ((x.length : Nat) : Int)) rfl ?_)
  try dsimp only
  refine wpAny_bind ?_
  show wpAny _ _ (newObj (.type "reversed") (.fields #[.str x t, rawInt ((x.length : Int) - 1)])) _ _ _
  refine wpAny_newObj_type ?_
  exact wpAny_pure h
theorem vs_call {x : Str} {t : Tok} {Q : Value → Shared → Prop} (hz : x.length ≤ sizeLine)
    (h : Q (.ref s.heap.objs.size) { s with heap := s.heap.push (vsObj x t ((x.length : Int) - 1)), toks := s.toks + 1 + 1 }) : wpAny (model prog w) A (call (.type "reversed") [.str x t]) Q E s := by
  refine callType_codes (Q₁ := fun obj s₁ => s₁.TypeIs obj "reversed" ∧ Q obj s₁) RT.called_rt (F.typeCall_reversed_1 _) F.entry_object_init
    (vs_code (A := A.in1) hz ⟨⟨_, Heap.get?_push_size _ rfl, rfl⟩, h⟩) fun obj s₁ h₁ => ?_
  exact ⟨h₁.1, F.args_object_init_2 obj _, object_init_meets RT.called_rt.init.lookup RT.called_rt.made (by decide) prog w A.in1 _ s₁ ⟨h₁.1, rfl, h₁.2⟩⟩
theorem vs_item {it : Addr} {x : Str} {t : Tok} {i c : Nat} {Q : Option Value → Shared → Prop} (hit : IsVs s.heap it x t (i : Int)) (hx : x.cps[i]? = some c) (hsz : x.length ≤ sizeLine)
    (hQ : ∀ h' tk tk', IsVs h' it x t ((i : Int) - 1) → Heap.SameBut it s.heap h' → Q (some (.str ⟨#[c]⟩ tk)) { s with heap := h', toks := tk' }) : wpAny (model prog w) A (pyNext (.ref it)) Q E s := by
  obtain ⟨o, ho, hc, hd⟩ := id hit
  have hi : i < x.length := (Array.getElem?_eq_some_iff.mp hx).1
  have hT : s.TypeIs (.str x t) "str" := typeIs_str s x t
  have hn := line63
  unfold pyNext
  refine wpAny_bind (wpAny_attempt (wpAny_callSpecial?_slot (name := Str.ofString "__next__") hit.typeIs RT.slot_rt_next
    (wpAny_call_entry RT.slot_rt_next hit.typeIs RT.entry_rt_next ?_ (RT.args_rt_next _))))
  unfold Builtin.«reversed.__next__»
  refine wpAny_bind (wpAny_of_eq (a := (Value.ref it, [])) rfl ?_)
  try dsimp only
  refine wpAny_bind (wpAny_field ho hd (x := .str x t) rfl ?_)
  try dsimp only
  refine wpAny_bind (wpAny_field ho hd (x := rawInt (i : Int)) rfl ?_)
  show wpAny _ _ (if (i : Int) < 0 then _ else _) _ _ s
  rw [if_neg (by omega)]
  try dsimp only
  refine wpAny_bind (wpAny_specialOf hT vs_get ?_)
  try dsimp only
  try rw [if_neg (by decide)]
  try dsimp only
  refine wpAny_bind (wpAny_mkInt ?_)
  refine wpAny_bind (wpAny_attempt ?_)
  have fin : seqIndex? (i : Int) x.length = some i := seqIndex_of (by omega) (by omega)
  refine P.getItem_str (s := { s with toks := s.toks + 1 }) (c := c) ?_ (by rw [fin]; exact hx) ?_
  · have e1 : decide ((i : Int) < -(2 ^ 63 : Int)) = false := decide_eq_false (by omega)
    have e2 : decide ((i : Int) ≥ 2 ^ 63) = false := decide_eq_false (by omega)
    rw [e1, e2, Bool.or_false]
  try dsimp only
  refine wpAny_bind (wpAny_field (s := { s with toks := s.toks + 1 + 1 }) ho hd (x := rawInt (i : Int)) rfl ?_)
  try dsimp only
  refine wpAny_bind (wpAny_setField (s := { s with toks := s.toks + 1 + 1 }) ho hd (by simp) ?_)
  first
  | refine wpAny_pure ⟨_, rfl, wpAny_pure (hQ _ _ _ ?_ (Heap.SameBut.update ..))⟩
  | refine wpAny_bind (wpAny_pure (wpAny_pure ⟨_, rfl, wpAny_pure (hQ _ _ _ ?_ (Heap.SameBut.update ..))⟩))
  exact ⟨_, Heap.get?_update_self _ ho (Obj.isFreed_of_fields (Obj.data_mapFields hd _)), (Obj.cls_mapFields ..).trans hc, by
    rw [Obj.data_mapFields hd]; simp⟩
theorem vs_end {it : Addr} {x : Str} {t : Tok} {Q : Option Value → Shared → Prop} (hh : A.handled = none) (hit : IsVs s.heap it x t (-1))
    (hQ : ∀ h', Heap.ExtBut it s.heap h' → Q none { s with heap := h' }) : wpAny (model prog w) A (pyNext (.ref it)) Q E s := by
  obtain ⟨o, ho, hc, hd⟩ := id hit
  unfold pyNext
  refine wpAny_bind (wpAny_attempt (wpAny_callSpecial?_slot (name := Str.ofString "__next__") hit.typeIs RT.slot_rt_next
    (wpAny_call_entry RT.slot_rt_next hit.typeIs RT.entry_rt_next ?_ (RT.args_rt_next _))))
  unfold Builtin.«reversed.__next__»
  refine wpAny_bind (wpAny_of_eq (a := (Value.ref it, [])) rfl ?_)
  try dsimp only
  refine wpAny_bind (wpAny_field ho hd (x := .str x t) rfl ?_)
  try dsimp only
  refine wpAny_bind (wpAny_field ho hd (x := rawInt (-1)) rfl ?_)
  show wpAny _ _ (if (-1 : Int) < 0 then _ else _) _ _ s
  rw [if_pos (by decide)]
  try dsimp only
  refine wpAny_bind (wpAny_rule ?_)
  refine wpAny_bind ?_
  wp_delta
  refine wpAny_bind (wpAny_setField ho hd (by simp) ?_)
  have ho2 := Heap.get?_update_self (Obj.mapFields (·.setIfInBounds 1 (rawInt (-1)))) ho (Obj.isFreed_of_fields (Obj.data_mapFields hd _))
  refine wpAny_setField (s := { s with heap := s.heap.update it (Obj.mapFields (·.setIfInBounds 1 (rawInt (-1)))) }) ho2 (Obj.data_mapFields hd _) (by simp) ?_
  try dsimp only
  first
  | show wpAny _ _ (newExc (.type "StopIteration") [] >>= _) _ _ _
  | (refine wpAny_bind ?_; show wpAny _ _ (newExc (.type "StopIteration") [] >>= _) _ _ _)
  | (refine wpAny_bind ?_; wp_delta; show wpAny _ _ (newExc (.type "StopIteration") [] >>= _) _ _ _)
  refine wpAny_bind ?_
  simp only [newExc, newTuple]
  refine wpAny_bind (wpAny_newObj_type ?_ (by size_fits))
  refine wpAny_bind (m := firstArgMember _ _) (wpAny_of_eq (a := Value.none) (by first | rfl | (simp only [firstArgMember]; rfl)) ?_)
  refine wpAny_newObj_type ?_ (by size_fits)
  simp only [raiseNew]
  refine wpAny_bind (wpAny_handled ?_)
  first | rw [show A.in1.handled = none from hh] | rw [hh]
  refine wpAny_bind (wpAny_pure (wpAny_throw ?_))
  refine wpAny_bind (wpAny_isInstance (T := "StopIteration") (b := true) ⟨_, Heap.get?_push_size _ rfl, rfl⟩ isSubtype_stop ?_)
  refine wpAny_pure (hQ _ ?_)
  refine ((?_ : Heap.ExtBut it s.heap _).push _).push _
  exact fun b ob hb e => (Heap.get?_update_other _ _ (Ne.symm hb)).trans ((Heap.get?_update_other _ _ (Ne.symm hb)).trans e)
theorem vs_iter {it : Addr} {x : Str} {t : Tok} {i : Int} {Q : Value → Shared → Prop} (hit : IsVs s.heap it x t i) (h : Q (.ref it) s) : wpAny (model prog w) A (pyIter (.ref it)) Q E s := by
  refine wpAny_pyIter_slot hit.typeIs RT.slot_rt_iter (wpAny_call_entry RT.slot_rt_iter hit.typeIs RT.entry_rt_iter ?_ (RT.args_rt_iter _))
  show wpAny _ _ (ret (.ref it)) _ _ s
  exact wpAny_pure ⟨_, rfl, "reversed", _, hit.typeIs, RT.slot_rt_next.lookup, h⟩
end
/-- the letters of a text from its end -/
def Itvs (x : Str) : It := ⟨fun i _ => i < x.cps.size, fun i H v H' => H' = H ∧ ∃ c, x.cps[x.cps.size - 1 - i]? = some c ∧ v = .str ⟨#[c]⟩, fun i _ => x.cps.size ≤ i⟩
theorem vs_turn {P : Program} {w : World} {K : PySem.W.Frag} {tg : Expr} (it : Addr) (x : Str) (t : Tok) (hz : x.length ≤ sizeLine) : Turn P w K tg (Itvs x) [it] it (fun i h => i ≤ x.cps.size ∧ IsVs h it x t ((x.cps.size : Int) - 1 - (i : Nat))) where
  mem := by simp
  obj := fun i h st b hb => by
    have e : b = it := by simpa using hb
    subst e
    obtain ⟨_, o, e, c, d⟩ := st
    exact ⟨o, e, fun v z => by rw [d] at z; cases z⟩
  keep := fun i h h' st k => ⟨st.1, st.2.at fun o e => k it (by simp) o e⟩
  item := by
    intro X hP hw hK hc i pins s σ H E I hf st hg
    subst hP hw hK
    have hin : i < x.cps.size := hg
    obtain ⟨f0, f1, f2, f3, f4, f5⟩ := hf it (by simp)
    obtain ⟨_, hit⟩ := st
    have e1 : (x.cps.size : Int) - 1 - ((i : Nat) : Int) = ((x.cps.size - 1 - i : Nat) : Int) := by omega
    rw [e1] at hit
    have hx : x.cps[x.cps.size - 1 - i]? = some (x.cps[x.cps.size - 1 - i]'(by omega)) := Array.getElem?_eq_getElem _
    refine vs_item hit hx hz fun h' tk tk' st' sb => ?_
    have e2 : ((x.cps.size - 1 - i : Nat) : Int) - 1 = (x.cps.size : Int) - 1 - ((i + 1 : Nat) : Int) := by omega
    rw [e2] at st'
    have I1 : Inv X pins σ H { s with heap := h', toks := tk' } := I.turned (t' := tk') (fun b o hb e => (sb.2 b hb).trans e) f0 f1 f3 f4 f5
    obtain ⟨o, e, c, d⟩ := id st'
    exact ⟨_, rfl, go_of (s := { s with heap := h', toks := tk' }) e c d (by decide) ⟨.str ⟨#[x.cps[x.cps.size - 1 - i]'(by omega)]⟩, H, I1, ⟨tk, rfl⟩, ⟨rfl, _, hx, rfl⟩, ⟨hin, st'⟩, fun b hb => (hf b hb).1⟩⟩
  done := by
    intro X hP hw hK hc i pins s σ H E I hf st hg
    subst hP hw hK
    obtain ⟨f0, f1, f2, f3, f4, f5⟩ := hf it (by simp)
    obtain ⟨hin, hit⟩ := st
    have hge : x.cps.size ≤ i := hg
    have e1 : (x.cps.size : Int) - 1 - ((i : Nat) : Int) = -1 := by omega
    rw [e1] at hit
    exact vs_end (I.ok.hd hc) hit fun h' eb => ⟨rfl, I.turned (t' := s.toks) (fun b o hb e => eb b o hb e) f0 f1 f3 f4 f5⟩
  self := fun A i s Q E st h => vs_iter st.2 h
def iRevS (te : TE) : TI := fun σ H R => te σ H fun v H1 => ∃ x, v = .str x ∧ x.length ≤ sizeLine ∧ R (Itvs x) H1
theorem pi_revS {X : Cx} {tg e : Expr} {te : TE} {p pos : Pos} (hg : L2.Gl X "reversed") (hm : X.mg "reversed" = none) (he : PE X e te) (hs : starEach [e] X.env = (false, eval e X.env) :: starEach [] X.env := by rfl) : PI X tg (.Call (.Name "reversed" p) [e] [] pos) (iRevS te) := by
  refine ⟨fun pins s σ H R I h => ?_⟩
  refine Call_ (ld_blt I hg hm PyProof.Rows.boot_reversed (PyProof.Rows.callWith_type1 (args_cons (thn (he.run pins s σ H _ I h) fun u s1 ⟨v, H1, I1, r1, q1⟩ => args_nil ?_) hs) hs rfl))
  obtain ⟨x, ev, hz, q⟩ := q1
  subst ev
  obtain ⟨t, rfl⟩ := r1
  have e1 : ((x.length : Nat) : Int) - 1 = (x.cps.size : Int) - 1 - ((0 : Nat) : Int) := by
    show ((x.cps.size : Nat) : Int) - 1 = _
    omega
  refine vs_call hz (vs_iter (x := x) (t := t) (i := ((x.length : Nat) : Int) - 1) ⟨_, Heap.get?_push_size _ rfl, rfl, rfl⟩ ?_)
  refine pi_one (tk := s1.toks + 1 + 1) I1 _ (vs_turn _ x t hz) ⟨Nat.zero_le _, ?_⟩ q
  rw [← e1]
  exact ⟨_, Heap.get?_push_size _ rfl, rfl, rfl⟩
/-- a loop over a text from its end -/
theorem for_revS {z : Str} {g : TG} {tb : TS} {D : Ends} {σ : L2.St} {H : Hp} (Pv : Nat → L2.St → Hp → Prop) (h0 : Pv 0 σ H)
    (hs : ∀ i c σ H, i < z.cps.size → z.cps[z.cps.size - 1 - i]? = some c → Pv i σ H → g (.str ⟨#[c]⟩) σ H fun σ2 H2 => tb { D with nx := Pv (i + 1), ct := Pv (i + 1), bk := D.nx } σ2 H2) (hd : ∀ σ H, Pv z.cps.size σ H → D.nx σ H) :
    ∃ W : Nat → Nat → L2.St → Hp → Prop, (∃ m, W 0 m σ H) ∧ ∀ i m σ H, W i m σ H →
      ((Itvs z).stop i H ∧ D.nx σ H) ∨ ((Itvs z).go i H ∧ ∃ N : L2.St → Hp → Prop, (∀ σ' H', N σ' H' → ∃ m', m' < m ∧ W (i + 1) m' σ' H') ∧ ∀ x H', (Itvs z).yld i H x H' → g x σ H' fun σ2 H2 => tb { D with nx := N, ct := N, bk := D.nx } σ2 H2) := by
  refine ⟨fun i m σ H => m = z.cps.size - i ∧ i ≤ z.cps.size ∧ Pv i σ H, ⟨z.cps.size, by simp, Nat.zero_le _, h0⟩, ?_⟩
  rintro i m σ H ⟨rfl, hi, p⟩
  by_cases hlt : i < z.cps.size
  · refine .inr ⟨hlt, Pv (i + 1), fun σ' H' p' => ⟨z.cps.size - (i + 1), by omega, rfl, hlt, p'⟩, fun x H' y => ?_⟩
    obtain ⟨rfl, c, hc, rfl⟩ := y
    exact hs i c σ _ hlt hc p
  · have e : i = z.cps.size := by omega
    subst e
    exact .inl ⟨Nat.le_refl _, hd σ H p⟩
/-! ### enumerate(text) -/
theorem ve_draws {prog : Program} {w : World} {A : Around} (hh : A.handled = none) (it : Addr) (x : Str) (t : Tok) {ty : String} (hty : ty = "str_ascii_iterator" ∨ ty = "str_iterator") :
    Draws prog w A it [it] x.cps.size (fun i v => ∃ c u, x.cps[i]? = some c ∧ v = .str ⟨#[c]⟩ u) (fun i h => h.IsStrIter it ty x t i) := by
  rcases hty with e | e
  · subst e; exact Draws.strAscii hh it x t
  · subst e; exact Draws.strWide hh it x t
/-- the letters of a text, each with its place in a new pair -/
def Itve (x : Str) : It :=
  ⟨fun i _ => i < x.cps.size, fun i H v H' => ∃ T c, v = .ref T ∧ H T = none ∧ H' = upd H T (.tup [.int (i : Nat), .str ⟨#[c]⟩]) ∧ x.cps[i]? = some c, fun i _ => x.cps.size ≤ i⟩
theorem ve_turn {P : Program} {w : World} {K : PySem.W.Frag} {elts : List Expr} {kk : Nat} {tpos : Pos} (e it : Addr) (x : Str) (t : Tok) {ty : String} (hty : ty = "str_ascii_iterator" ∨ ty = "str_iterator") :
    Turn P w K (.Tuple elts kk tpos) (Itve x) [e, it] e (fun i h => i ≤ x.cps.size ∧ (∃ old, IsEnum h e it ((i : Nat) : Int) old) ∧ h.IsStrIter it ty x t i ∧ e ≠ it) where
  mem := by simp
  obj := fun i h st b hb => by
    obtain ⟨_, ⟨old, he⟩, ⟨o, ho, hc, hd⟩, _⟩ := st
    have e' : b = e ∨ b = it := by simpa using hb
    rcases e' with z | z
    · rw [z]; exact ⟨_, he, fun v q => nomatch q⟩
    · rw [z]; exact ⟨o, ho, fun v q => by rw [hd] at q; cases q⟩
  keep := fun i h h' st k => let ⟨hi, ⟨old, he⟩, ⟨o, ho, r⟩, hne⟩ := st; ⟨hi, ⟨old, k e (by simp) _ he⟩, ⟨o, k it (by simp) _ ho, r⟩, hne⟩
  item := by
    intro X hP hw hK hc i pins s σ H E I hf st hg
    subst hP hw hK
    obtain ⟨hi0, ⟨old, he⟩, hit, hne⟩ := st
    have hi : i < x.cps.size := hg
    have hel : e < s.heap.objs.size := Heap.lt_size he
    have hil : it < s.heap.objs.size := by obtain ⟨_, q, _⟩ := hit; exact Heap.lt_size q
    refine wpAny_pyNext_enum_itemD (ve_draws (A := X.A.in1) (I.ok.hd hc) it x t hty) he hit hi hne (fun h => hne (List.mem_singleton.mp h)) fun v h' tk hv ho hit' hT hsz hk => ?_
    obtain ⟨c, u, hxc, rfl⟩ := hv
    refine ⟨_, rfl, wpAny_letOwnedTupleGo_enum (s := { s with heap := h', toks := tk + 1 }) ho fun h'' he' sb => ?_⟩
    have hT2 : h''.get? s.heap.objs.size = some { cls := .type "tuple", data := .seq #[.int i tk, .str ⟨#[c]⟩ u] } := (sb.2 _ (Nat.ne_of_gt hel)).trans hT
    have new : ObjOk X.prog X.w (upd H s.heap.objs.size (.tup [.int (i : Nat), .str ⟨#[c]⟩])) h'' s.heap.objs.size (.tup [.int (i : Nat), .str ⟨#[c]⟩]) :=
      ⟨by show 2 ≤ sizeLine; decide, [.int i tk, .str ⟨#[c]⟩ u], .cons ⟨_, rfl⟩ (.cons ⟨u, rfl⟩ .nil), ⟨_, hT2, rfl, _, rfl⟩⟩
    have I1 : Inv X pins σ (upd H s.heap.objs.size (.tup [.int (i : Nat), .str ⟨#[c]⟩])) { s with heap := h'', toks := tk + 1 } :=
      I.turnedNew (ch := [e, it]) (fun b ob hb q => (sb.2 b (fun z => hb (by simp [z]))).trans (hk b ob (fun z => hb (by simp [z])) (fun z => hb (by simp [z])) q)) hf (Nat.le_refl _) new
    refine ⟨.ref s.heap.objs.size, _, I1, rfl, ⟨_, c, rfl, I.hok.fresh (Nat.le_refl _), rfl, hxc⟩, ⟨hi, ⟨.str ⟨#[c]⟩ u, ?_⟩, ?_, hne⟩, fun b hb => ?_⟩
    · have e1 : ((i + 1 : Nat) : Int) = (i : Int) + 1 := by omega
      rw [e1]; exact he'
    · obtain ⟨o, ho', r⟩ := hit'
      exact ⟨o, (sb.2 it (Ne.symm hne)).trans ho', r⟩
    · have hb' : b < s.heap.objs.size := by
        have e' : b = e ∨ b = it := by simpa using hb
        rcases e' with z | z
        · rw [z]; exact hel
        · rw [z]; exact hil
      rw [upd_ne (Nat.ne_of_lt hb')]
      exact (hf b hb).1
  done := by
    intro X hP hw hK hc i pins s σ H E I hf st hg
    subst hP hw hK
    obtain ⟨hi0, ⟨old, he⟩, hit, hne⟩ := st
    have hge : x.cps.size ≤ i := hg
    have hi : i = x.cps.size := by omega
    subst hi
    obtain ⟨f0, f1, f2, f3, f4, f5⟩ := hf it (by simp)
    exact wpAny_pyNext_enum_endD (ve_draws (A := X.A.in1) (I.ok.hd hc) it x t hty) he hit fun h' eb => ⟨rfl, I.turned (t' := s.toks) (fun b o hb q => eb b o hb q) f0 f1 f3 f4 f5⟩
  self := fun A i s Q E st h => let ⟨_, ⟨_, he⟩, _⟩ := st; wpAny_pyIter_enum he h
def iEnumS (ta : TA) : TI := fun σ H R => ta σ H fun vs H1 => ∃ x, vs = [.str x] ∧ R (Itve x) H1
theorem pi_enumS {X : Cx} {e : Expr} {ta : TA} {p pos tpos : Pos} {elts : List Expr} {kk : Nat} (hg : L2.Gl X "enumerate") (hm : X.mg "enumerate" = none) (ha : PA X [e] ta) (hs : starEach [e] X.env = [(false, eval e X.env)] := by rfl) :
    PI X (.Tuple elts kk tpos) (.Call (.Name "enumerate" p) [e] [] pos) (iEnumS ta) := by
  refine ⟨fun pins s σ H R I h => ?_⟩
  refine Call_ (ld_blt I hg hm boot_enumerate (PyProof.Rows.callWith_type1 (thn (ha.run pos pins s σ H _ I h) fun us s1 ⟨vs, H1, I1, r1, q1⟩ => ?_) hs rfl))
  obtain ⟨x, ex, q⟩ := q1
  subst ex
  cases r1 with
  | cons r rr =>
    cases rr
    obtain ⟨t, rfl⟩ := r
    have hty : strIterType x = "str_ascii_iterator" ∨ strIterType x = "str_iterator" := by
      unfold strIterType
      split
      · exact .inl rfl
      · exact .inr rfl
    refine call_enumerate_str fun h' he hit hsz hk => wpAny_pyIter_enum he ?_
    have I2 : Inv X pins σ H1 { s1 with heap := h' } := I1.kept (t' := s1.toks) hk
    refine ⟨s1.heap.objs.size + 1, [s1.heap.objs.size + 1, s1.heap.objs.size], _, _, H1, rfl, I2, ve_turn (s1.heap.objs.size + 1) s1.heap.objs.size x t hty, ⟨Nat.zero_le _, ⟨.none, he⟩, hit, Nat.succ_ne_self _⟩, fun b hb => ?_, q⟩
    have e' : b = s1.heap.objs.size + 1 ∨ b = s1.heap.objs.size := by simpa using hb
    have hle : s1.heap.objs.size ≤ b := by
      rcases e' with z | z
      · rw [z]; exact Nat.le_add_right _ _
      · rw [z]; exact Nat.le_refl _
    exact I1.fpOk hle (I1.hok.fresh hle)
theorem for_enumS {z : Str} {g : TG} {tb : TS} {D : Ends} {σ : L2.St} {H : Hp} (Pv : Nat → L2.St → Hp → Prop) (h0 : Pv 0 σ H)
    (hs : ∀ i c T σ H, z.cps[i]? = some c → Pv i σ H → H T = none → g (.ref T) σ (upd H T (.tup [.int (i : Nat), .str ⟨#[c]⟩])) fun σ2 H2 => tb { D with nx := Pv (i + 1), ct := Pv (i + 1), bk := D.nx } σ2 H2) (hd : ∀ σ H, Pv z.cps.size σ H → D.nx σ H) :
    ∃ W : Nat → Nat → L2.St → Hp → Prop, (∃ m, W 0 m σ H) ∧ ∀ i m σ H, W i m σ H →
      ((Itve z).stop i H ∧ D.nx σ H) ∨ ((Itve z).go i H ∧ ∃ N : L2.St → Hp → Prop, (∀ σ' H', N σ' H' → ∃ m', m' < m ∧ W (i + 1) m' σ' H') ∧ ∀ x H', (Itve z).yld i H x H' → g x σ H' fun σ2 H2 => tb { D with nx := N, ct := N, bk := D.nx } σ2 H2) := by
  refine ⟨fun i m σ H => m = z.cps.size - i ∧ i ≤ z.cps.size ∧ Pv i σ H, ⟨z.cps.size, by simp, Nat.zero_le _, h0⟩, ?_⟩
  rintro i m σ H ⟨rfl, hi, p⟩
  by_cases hlt : i < z.cps.size
  · refine .inr ⟨hlt, Pv (i + 1), fun σ' H' p' => ⟨z.cps.size - (i + 1), by omega, rfl, hlt, p'⟩, fun x H' y => ?_⟩
    obtain ⟨T, c, rfl, hT, rfl, hc⟩ := y
    exact hs i c T σ H hc p hT
  · have e : i = z.cps.size := by omega
    subst e
    exact .inl ⟨Nat.le_refl _, hd σ H p⟩
end My
set_option maxHeartbeats 1000000
namespace My
open PySem PySem.Spec PyProof.Rows L2
/-! ### enumerate(tuple) -/
theorem meets_enumT (l : Addr) (items : Array Value) (n : Nat) (dct : Option Addr) (sl : Array (Option Value)) :
    Meets (Builtin.«enumerate.__new__» ⟨[.type "enumerate", .ref l], []⟩) (fun _ R s => s.heap.get? l = some { cls := .type "tuple", dict := dct, data := .seq items n, slots := sl } ∧
      R (.ok (.ret (.ref (s.heap.push { cls := .type "tuple_iterator", data := .fields #[.ref l, .int 0 0] }).objs.size)))
        { s with heap := (s.heap.push { cls := .type "tuple_iterator", data := .fields #[.ref l, .int 0 0] }).push { cls := .type "enumerate", data := .fields #[.none, .bool false, .ref s.heap.objs.size, rawInt 0, .none, .none] } }) :=
  .of_wp fun prog w A R s h => by
    obtain ⟨hp, g, d, tk, os⟩ := s; obtain ⟨hl, h⟩ := h
    have hsub := sub_enumerate
    have hL : Heap.IsTuple (Shared.heap ⟨hp, g, d, tk, os⟩) l items := ⟨_, hl, rfl, n, rfl⟩
    wp_walk using AutoSeq1.wpAny_loadPart' hl
    refine wpAny_stack_any fun st => wpAny_pure ?_
    split
    · rename_i c _ _ _ _ _
      cases (c == Value.type "enumerate")
      · wp_walk using AutoSeq1.wpAny_loadPart' hl, wpAny_pyIter_tuple hL
        exact ⟨_, rfl, h⟩
      · wp_walk using AutoSeq1.wpAny_loadPart' hl, wpAny_pyIter_tuple hL
        exact ⟨_, rfl, h⟩
    · wp_walk using AutoSeq1.wpAny_loadPart' hl, wpAny_pyIter_tuple hL
      exact ⟨_, rfl, h⟩
theorem call_enumT {prog : Program} {w : World} {A : Around} {E : Value → Shared → Prop} {s : Shared} {l : Addr} {items : Array Value} {Q : Value → Shared → Prop} (hL : s.heap.IsTuple l items)
    (h : ∀ h', IsEnum h' (s.heap.objs.size + 1) s.heap.objs.size 0 .none → h'.IsTupleIter s.heap.objs.size l 0 → h'.objs.size = s.heap.objs.size + 2 →
      (∀ b o, s.heap.get? b = some o → h'.get? b = some o) → Q (.ref (s.heap.objs.size + 1)) { s with heap := h' }) :
    wpAny (model prog w) A (call (.type "enumerate") [.ref l]) Q E s := by
  obtain ⟨⟨c, dct, dt, sl⟩, hl, hc, n, hd⟩ := hL
  replace hc : c = .type "tuple" := hc
  replace hd : dt = .seq items n := hd
  subst hc hd
  refine callType_new F.called_enumerate (by decide) (F.typeCall_enumerate_1 _) (F.newCall_enumerate_1 _) (fun obj => F.args_object_init_2 obj _) F.entry_enumerate_new
    (meets_enumT l items n dct sl) ⟨hl, ?_⟩
  have hz : (s.heap.push { cls := .type "tuple_iterator", data := .fields #[.ref l, .int 0 0] }).objs.size = s.heap.objs.size + 1 := Heap.size_push ..
  show _ ∧ _
  rw [hz]
  have he : IsEnum ((s.heap.push { cls := .type "tuple_iterator", data := .fields #[.ref l, .int 0 0] }).push
      { cls := .type "enumerate", data := .fields #[.none, .bool false, .ref s.heap.objs.size, rawInt 0, .none, .none] }) (s.heap.objs.size + 1) s.heap.objs.size 0 .none := by
    have := Heap.get?_push_size (s.heap.push { cls := .type "tuple_iterator", data := .fields #[.ref l, .int 0 0] })
      (o := { cls := .type "enumerate", data := .fields #[.none, .bool false, .ref s.heap.objs.size, rawInt 0, .none, .none] }) rfl
    rw [hz] at this; exact this
  refine ⟨⟨_, he, rfl⟩, h _ he ⟨_, Heap.get?_push_of_some _ (Heap.get?_push_size _ rfl), rfl, rfl⟩ (by rw [Heap.size_push, hz]) fun b o x => Heap.get?_push_of_some _ (Heap.get?_push_of_some _ x)⟩
/-- the tuple at a, each item with its place in a new pair -/
def Itet (K : PySem.W.Frag) (a : Addr) : It :=
  ⟨fun i H => ∃ (xs : List V) (x : V), SqT K H a xs ∧ xs[i]? = some x, fun i H v H' => ∃ T x, v = .ref T ∧ H T = none ∧ H' = upd H T (.tup [.int (i : Nat), x]) ∧ ∀ xs, SqT K H a xs → xs[i]? = some x, fun i H => ∃ xs : List V, SqT K H a xs ∧ xs.length ≤ i⟩
theorem et_apart {h : Heap} {e it a : Addr} {i : Nat} {old : Value} {items : Array Value} {c : Int} (he : IsEnum h e it c old) (hit : h.IsTupleIter it a i) (ht : h.IsTuple a items) : e ≠ a ∧ a ≠ it := by
  obtain ⟨o, ho, hc, _⟩ := ht
  obtain ⟨o2, ho2, hc2, _⟩ := hit
  constructor
  · intro z
    rw [← z, (show h.get? e = _ from he)] at ho
    cases ho
    exact absurd (Value.type.inj hc) (by decide)
  · intro z
    rw [z, ho2] at ho
    cases ho
    rw [hc2] at hc
    exact absurd (Value.type.inj hc) (by decide)
theorem et_end {prog : Program} {w : World} {A : Around} {E : Value → Shared → Prop} {s : Shared} {e it a : Addr} {c : Int} {old : Value} {i : Nat} {items : Array Value} {Q : Option Value → Shared → Prop} (hh : A.in1.handled = none) (he : IsEnum s.heap e it c old) (hit : s.heap.IsTupleIter it a i) (ht : s.heap.IsTuple a items) (hx : items[i]? = none)
    (hQ : ∀ h', Heap.ExtBut it s.heap h' → Q none { s with heap := h' }) : wpAny (model prog w) A (pyNext (.ref e)) Q E s := by
  have hT : s.TypeIs (.ref e) "enumerate" := ⟨_, he, rfl⟩
  unfold pyNext
  refine wpAny_bind (wpAny_attempt (wpAny_callSpecial?_slot (name := Str.ofString "__next__") hT F.slot_enumerate_next
    (wpAny_call_entry F.slot_enumerate_next hT F.entry_enumerate_next ?_ (F.args_enumerate_next_1 _))))
  show wpAny _ _ (field (.ref e) 2 >>= _) _ _ _
  refine wpAny_bind (wpAny_field he rfl (x := .ref it) rfl ?_)
  refine wpAny_bind (wpAny_nextOf_tuple_end hh hit ht hx fun h' x he' hx' => ?_)
  obtain ⟨o, ho, hc⟩ := hx'
  refine wpAny_bind (wpAny_isInstance (T := "StopIteration") (b := true) ⟨o, ho, hc⟩ isSubtype_stop ?_)
  exact wpAny_pure (hQ _ he')
theorem et_turn {P : Program} {w : World} {K : PySem.W.Frag} {elts : List Expr} {kk : Nat} {tpos : Pos} (a e it : Addr) :
    Turn P w K (.Tuple elts kk tpos) (Itet K a) [e, it] e (fun i h => (∃ old, IsEnum h e it ((i : Nat) : Int) old) ∧ h.IsTupleIter it a i ∧ e ≠ it) where
  mem := by simp
  obj := fun i h st b hb => by
    obtain ⟨⟨old, he⟩, ⟨o, ho, hc, hd⟩, _⟩ := st
    have e' : b = e ∨ b = it := by simpa using hb
    rcases e' with z | z
    · rw [z]; exact ⟨_, he, fun v q => nomatch q⟩
    · rw [z]; exact ⟨o, ho, fun v q => by rw [hd] at q; cases q⟩
  keep := fun i h h' st k => let ⟨⟨old, he⟩, hi, hne⟩ := st; ⟨⟨old, k e (by simp) _ he⟩, hi.at fun o q => k it (by simp) o q, hne⟩
  item := by
    intro X hP hw hK hc i pins s σ H E I hf st hg
    subst hP hw hK
    obtain ⟨⟨old, he⟩, hit, hne⟩ := st
    obtain ⟨xs, x, hq, hx⟩ := hg
    obtain ⟨its, rv, p, hz⟩ := I.tuple hq
    have ht : s.heap.IsTuple a its.toArray := p
    obtain ⟨u, hu, ru⟩ := rv.get hx
    obtain ⟨ne1, ne2⟩ := et_apart he hit ht
    have hel : e < s.heap.objs.size := Heap.lt_size he
    have hil : it < s.heap.objs.size := by obtain ⟨_, q, _⟩ := hit; exact Heap.lt_size q
    refine wpAny_pyNext_enum_itemD (Draws.tuple (A := X.A.in1) (I.ok.hd hc) it a ne2 its.toArray) he ⟨hit, ht⟩ (by have := (List.getElem?_eq_some_iff.mp hu).1; simpa using this) hne (fun h => by
      rcases List.mem_cons.mp h with h | h
      · exact hne h
      · exact ne1 (List.mem_singleton.mp h)) fun v h' tk hv ho hit' hT hsz hk => ?_
    have hvu : v = u := by
      have : its.toArray[i]? = some u := by simpa using hu
      rw [this] at hv
      exact (Option.some.inj hv).symm
    subst hvu
    refine ⟨_, rfl, wpAny_letOwnedTupleGo_enum (s := { s with heap := h', toks := tk + 1 }) ho fun h'' he' sb => ?_⟩
    have hT2 : h''.get? s.heap.objs.size = some { cls := .type "tuple", data := .seq #[.int i tk, v] } := (sb.2 _ (Nat.ne_of_gt hel)).trans hT
    have new : ObjOk X.prog X.w (upd H s.heap.objs.size (.tup [.int (i : Nat), x])) h'' s.heap.objs.size (.tup [.int (i : Nat), x]) :=
      ⟨by show 2 ≤ sizeLine; decide, [.int i tk, v], .cons ⟨_, rfl⟩ (.cons ru .nil), ⟨_, hT2, rfl, _, rfl⟩⟩
    have I1 : Inv X pins σ (upd H s.heap.objs.size (.tup [.int (i : Nat), x])) { s with heap := h'', toks := tk + 1 } :=
      I.turnedNew (ch := [e, it]) (fun b ob hb q => (sb.2 b (fun z => hb (by simp [z]))).trans (hk b ob (fun z => hb (by simp [z])) (fun z => hb (by simp [z])) q)) hf (Nat.le_refl _) new
    refine ⟨.ref s.heap.objs.size, _, I1, rfl, ⟨_, x, rfl, I.hok.fresh (Nat.le_refl _), rfl, fun ys hy => by rw [I.tuple_inj hy hq]; exact hx⟩, ⟨⟨v, ?_⟩, hit'.1.at fun o q => (sb.2 it (Ne.symm hne)).trans q, hne⟩, fun b hb => ?_⟩
    · have e1 : ((i + 1 : Nat) : Int) = (i : Int) + 1 := by omega
      rw [e1]; exact he'
    · have hb' : b < s.heap.objs.size := by
        have e' : b = e ∨ b = it := by simpa using hb
        rcases e' with z | z
        · rw [z]; exact hel
        · rw [z]; exact hil
      rw [upd_ne (Nat.ne_of_lt hb')]
      exact (hf b hb).1
  done := by
    intro X hP hw hK hc i pins s σ H E I hf st hg
    subst hP hw hK
    obtain ⟨⟨old, he⟩, hit, hne⟩ := st
    obtain ⟨xs, hq, hx⟩ := hg
    obtain ⟨its, rv, p, hz⟩ := I.tuple hq
    have ht : s.heap.IsTuple a its.toArray := p
    obtain ⟨ne1, ne2⟩ := et_apart he hit ht
    obtain ⟨f0, f1, f2, f3, f4, f5⟩ := hf it (by simp)
    have hl := rv.length
    exact et_end (I.ok.hd hc) he hit ht (by simp; omega) fun h' eb => ⟨rfl, I.turned (t' := s.toks) (fun b o hb q => eb b o hb q) f0 f1 f3 f4 f5⟩
  self := fun A i s Q E st h => let ⟨⟨_, he⟩, _⟩ := st; wpAny_pyIter_enum he h
def iEnumT (K : PySem.W.Frag) (ta : TA) : TI := fun σ H R => ta σ H fun vs H1 => ∃ a xs, vs = [.ref a] ∧ SqT K H1 a xs ∧ R (Itet K a) H1
theorem pi_enumT {X : Cx} {e : Expr} {ta : TA} {p pos tpos : Pos} {elts : List Expr} {kk : Nat} (hg : L2.Gl X "enumerate") (hm : X.mg "enumerate" = none) (ha : PA X [e] ta) (hs : starEach [e] X.env = [(false, eval e X.env)] := by rfl) :
    PI X (.Tuple elts kk tpos) (.Call (.Name "enumerate" p) [e] [] pos) (iEnumT X.K ta) := by
  refine ⟨fun pins s σ H R I h => ?_⟩
  refine Call_ (ld_blt I hg hm boot_enumerate (PyProof.Rows.callWith_type1 (thn (ha.run pos pins s σ H _ I h) fun us s1 ⟨vs, H1, I1, r1, q1⟩ => ?_) hs rfl))
  obtain ⟨a, xs, ex, hq, q⟩ := q1
  subst ex
  cases r1 with
  | cons r rr =>
    cases rr
    cases r
    obtain ⟨its, rv, p', hz⟩ := I1.tuple hq
    refine call_enumT (show s1.heap.IsTuple a its.toArray from p') fun h' he hit hsz hk => wpAny_pyIter_enum he ?_
    have I2 : Inv X pins σ H1 { s1 with heap := h' } := I1.kept (t' := s1.toks) hk
    refine ⟨s1.heap.objs.size + 1, [s1.heap.objs.size + 1, s1.heap.objs.size], _, _, H1, rfl, I2, et_turn a (s1.heap.objs.size + 1) s1.heap.objs.size, ⟨⟨.none, he⟩, hit, Nat.succ_ne_self _⟩, fun b hb => ?_, q⟩
    have e' : b = s1.heap.objs.size + 1 ∨ b = s1.heap.objs.size := by simpa using hb
    have hle : s1.heap.objs.size ≤ b := by
      rcases e' with z | z
      · rw [z]; exact Nat.le_add_right _ _
      · rw [z]; exact Nat.le_refl _
    exact I1.fpOk hle (I1.hok.fresh hle)
theorem for_enumT {K : PySem.W.Frag} {a : Addr} {xs : List V} {g : TG} {tb : TS} {D : Ends} {σ : L2.St} {H : Hp} (Pv : Nat → L2.St → Hp → Prop) (h0 : Pv 0 σ H) (hl : ∀ i σ H, i ≤ xs.length → Pv i σ H → SqT K H a xs)
    (hs : ∀ i x T σ H, xs[i]? = some x → Pv i σ H → H T = none → g (.ref T) σ (upd H T (.tup [.int (i : Nat), x])) fun σ2 H2 => tb { D with nx := Pv (i + 1), ct := Pv (i + 1), bk := D.nx } σ2 H2) (hd : ∀ σ H, Pv xs.length σ H → D.nx σ H) :
    ∃ W : Nat → Nat → L2.St → Hp → Prop, (∃ m, W 0 m σ H) ∧ ∀ i m σ H, W i m σ H →
      ((Itet K a).stop i H ∧ D.nx σ H) ∨ ((Itet K a).go i H ∧ ∃ N : L2.St → Hp → Prop, (∀ σ' H', N σ' H' → ∃ m', m' < m ∧ W (i + 1) m' σ' H') ∧ ∀ x H', (Itet K a).yld i H x H' → g x σ H' fun σ2 H2 => tb { D with nx := N, ct := N, bk := D.nx } σ2 H2) := by
  refine ⟨fun i m σ H => m = xs.length - i ∧ i ≤ xs.length ∧ Pv i σ H, ⟨xs.length, by simp, Nat.zero_le _, h0⟩, ?_⟩
  rintro i m σ H ⟨rfl, hi, p⟩
  have hq := hl i σ H hi p
  by_cases hlt : i < xs.length
  · refine .inr ⟨⟨xs, _, hq, List.getElem?_eq_getElem hlt⟩, Pv (i + 1), fun σ' H' p' => ⟨xs.length - (i + 1), by omega, rfl, hlt, p'⟩, fun v H' y => ?_⟩
    obtain ⟨T, x, rfl, hT, rfl, hx⟩ := y
    exact hs i x T σ _ (hx xs hq) p hT
  · have e : i = xs.length := by omega
    subst e
    exact .inl ⟨⟨xs, hq, Nat.le_refl _⟩, hd σ H p⟩
end My
set_option maxHeartbeats 1000000
namespace My
open PySem PySem.Spec PyProof.Rows L2
/-! ### sorted(dict), int keys -/
theorem dk_len : typeLookup (.type "dict") "__len__" = pure (some (.builtin "dict.__len__")) := by rw [typeLookup_type, builtinLookup_eq_fast]; kernel_rfl
section
variable {prog : Program} {w : World} {A : Around} {E : Value → Shared → Prop} {s : Shared} {d : Addr} {es : Array DictEntry} {ep : Nat}
theorem dk_hint (hT : s.TypeIs (.ref d) "dict") {Q : Bool → Shared → Prop} (h : Q false s) : wpAny (model prog w) A (Builtin.List.listLengthHint (.ref d)) Q E s := by
  unfold Builtin.List.listLengthHint
  refine wpAny_bind (wpAny_specialOf hT dk_len ?_)
  generalize hid : ("dict.__len__" : String) = id0
  wp_delta
  rw [show splitId id0 = some ("dict", "__len__") from by subst hid; decide +kernel]
  subst hid
  refine wpAny_bind (wpAny_isInstance (T := "dict") (b := true) hT (by rw [isSubtype_type]; kernel_rfl) ?_)
  refine wpAny_ite_split (fun hab => absurd hab (by decide)) (fun _ => ?_)
  refine wpAny_ite_split (fun _ => ?_) (fun hab => absurd (by decide +kernel) hab)
  refine wpAny_bind (wpAny_typeOf hT ?_)
  exact wpAny_pure h
theorem raw_at {h h' : Heap} (x : h.DictRaw d es ep) (e : ∀ o, h.get? d = some o → h'.get? d = some o) : h'.DictRaw d es ep := let ⟨o, ho, r⟩ := x; ⟨o, e _ ho, r⟩
theorem raw_lt {h : Heap} (x : h.DictRaw d es ep) : d < h.objs.size := let ⟨_, ho, _⟩ := x; Heap.lt_size ho
theorem loopK {R : Result → Shared → Prop} {S I : Addr} (hh : A.handled = none) (hSI : S < I) (hSd : d ≠ S) (hId : d ≠ I) (hn : es.size ≤ sizeLine) (res : Value) {h₁ : Heap}
    (hR : ∀ h' acc c, (∀ b o, b ≠ S → b ≠ I → h₁.get? b = some o → h'.get? b = some o) → h'.get? S = some { cls := .type "list", dict := none, data := .seq acc c, slots := #[] } →
      acc.toList = es.toList.map (·.key) → R (.ok (.ret res)) { s with heap := h' }) :
    ∀ (k i : Nat) (h : Heap) (c : Nat) (acc : Array Value), es.size - i = k → i ≤ es.size → h.IsKeyIter I d i es.size ep → h.DictRaw d es ep → (∀ b o, b ≠ S → b ≠ I → h₁.get? b = some o → h.get? b = some o) →
      h.get? S = some { cls := .type "list", dict := none, data := .seq acc c, slots := #[] } → acc.toList = (es.toList.map (·.key)).take i →
      codeAny (model prog w) A (.builtin "list.extend.loop" ⟨[.ref S, .ref I, res], []⟩) R { s with heap := h } := by
  have hne : S ≠ I := Nat.ne_of_lt hSI
  intro k
  induction k with
  | zero =>
    intro i h c acc hk hi hst hD hkeep hS hacc
    refine codeAny_builtin PySem.F.entry_extend_loop ?_
    rw [Around.under_plainId PySem.F.plain_extend_loop _]
    show wpAny _ A.in1 (pyNext (.ref I) >>= _) _ _ _
    refine wpAny_bind (wpAny_pyNext_keys_end_raw (s := { s with heap := h }) (A := A.in1) hh hst hD (by omega) fun h' he => ?_)
    refine wpAny_pure (hR h' acc c (fun b o h1 h2 e => he b o h2 (hkeep b o h1 h2 e)) (he S _ hne hS) ?_)
    rw [hacc, List.take_of_length_le]
    rw [List.length_map, Array.length_toList]
    omega
  | succ k ih =>
    intro i h c acc hk hi hst hD hkeep hS hacc
    have hlt : i < es.size := by omega
    have hsz : acc.size = i := by rw [← Array.length_toList, hacc, List.length_take, List.length_map, Array.length_toList]; omega
    refine codeAny_builtin PySem.F.entry_extend_loop ?_
    rw [Around.under_plainId PySem.F.plain_extend_loop _]
    show wpAny _ A.in1 (pyNext (.ref I) >>= _) _ _ _
    refine wpAny_bind (wpAny_pyNext_keys_item_raw (s := { s with heap := h }) hst hD hlt fun h' hst' sb => ?_)
    have hkp : ∀ b o, b ≠ I → h.get? b = some o → h'.get? b = some o := fun b o hb e => (sb.2 b hb).trans e
    have hS' := hkp S _ hne hS
    have up : ∀ b o, b ≠ S → h'.get? b = some o → (h'.update S (Obj.mapSeq (·.push es[i].key))).get? b = some o := fun b o hb e => (Heap.get?_update_other _ _ (Ne.symm hb)).trans e
    show wpAny _ A.in1 (updateSeq S (·.push es[i].key) >>= _) _ _ _
    refine wpAny_bind ?_
    refine wpAny_updateSeq hS' rfl (wpAny_pure ⟨plainId_quiet PySem.F.plain_extend_loop _, ih (i + 1) _ _ (acc.push es[i].key) (by omega) hlt (hst'.at fun o e => up I o (Ne.symm hne) e) (raw_at hD fun o e => up d o hSd (hkp d o hId e))
      (fun b o h1 h2 e => up b o h1 (hkp b o h2 (hkeep b o h1 h2 e))) (Heap.get?_update_self _ hS' rfl) ?_⟩) (by rw [hsz]; omega) (by show (acc.push es[i].key).size ≤ sizeLine + 1; rw [Array.size_push]; omega)
    rw [Array.toList_push, hacc, List.take_add_one]
    congr 1
    rw [List.getElem?_map, Array.getElem?_toList, Array.getElem?_eq_getElem hlt]
    rfl
theorem extK {R : Result → Shared → Prop} (hh : A.handled = none) (hds : (d == sysModules) = false) (hm : s.heap.DictRaw d es ep) (S : Addr) (hSd : d ≠ S) (res : Value) (c₀ : Nat) (hS : s.heap.get? S = some { cls := .type "list", data := .seq #[] c₀ })
    (hR : ∀ h' acc c, (∀ b o, b ≠ S → s.heap.get? b = some o → h'.get? b = some o) → h'.get? S = some { cls := .type "list", dict := none, data := .seq acc c, slots := #[] } →
      acc.toList = es.toList.map (·.key) → R (.ok (.ret res)) { s with heap := h' }) (hn : es.size ≤ sizeLine) :
    wpAny (model prog w) A.in1 (Builtin.List.listExtendWith (.ref S) (.ref d) res)
      (fun fin s' => match fin with | .done f => R (.ok f) s' | .again c' => c'.quiet = true ∧ codeAny (model prog w) A c' R s') (fun e s' => R (.error e) s') s := by
  have hSI : S < s.heap.objs.size := Heap.lt_size hS
  have hdI : d < s.heap.objs.size := raw_lt hm
  have key : ∀ (h : Heap) (c₁ : Nat), (∀ b o, b ≠ S → (s.heap.push { cls := .type "dict_keyiterator", data := .fields #[.ref d, .int 0 0, .int es.size 0, .int ep 0] }).get? b = some o → h.get? b = some o) →
      h.get? S = some { cls := .type "list", data := .seq #[] c₁ } → codeAny (model prog w) A (.builtin "list.extend.loop" ⟨[.ref S, .ref s.heap.objs.size, res], []⟩) R { s with heap := h } := by
    intro h c₁ hk hS₁
    have hI := hk s.heap.objs.size _ (Nat.ne_of_gt hSI) (Heap.get?_push_size _ rfl)
    refine loopK (es := es) (ep := ep) (s := s) (h₁ := s.heap) hh hSI hSd (Nat.ne_of_lt hdI) hn res (fun h' acc c hk' hS' hacc => hR h' acc c (fun b o hb e => hk' b o hb (Nat.ne_of_lt (Heap.lt_size e)) e) hS' hacc)
      es.size 0 h c₁ #[] (Nat.sub_zero _) (Nat.zero_le _) ⟨_, hI, rfl, rfl⟩ (raw_at hm fun o e => hk d o hSd (Heap.get?_push_of_some _ e)) (fun b o hb _ e => hk b o hb (Heap.get?_push_of_some _ e)) hS₁ rfl
  unfold Builtin.List.listExtendWith
  refine wpAny_bind (wpAny_typeOf (T := "dict") hm.typeIs ?_)
  have h1 : Builtin.List.listSameRef (.ref S) (.ref d) = false := by simp [Builtin.List.listSameRef, Ne.symm hSd]
  have h2 : (Value.type "dict" == Value.type "list") = false := by decide
  have h3 : (Value.type "dict" == Value.type "tuple") = false := by decide
  simp only [h1, h2, h3, Bool.or_false, Bool.false_eq_true, if_false]
  refine wpAny_bind (wpAny_pyIter_dict_raw hds hm ?_)
  have hS₁ := Heap.get?_push_of_some { cls := .type "dict_keyiterator", data := .fields #[.ref d, .int 0 0, .int es.size 0, .int ep 0] } hS
  refine wpAny_bind (wpAny_holding (dk_hint (raw_at hm fun o e => Heap.get?_push_of_some _ e).typeIs ?_))
  refine wpAny_ite_split (fun _ => ?_) (fun _ => wpAny_pure ⟨plainId_quiet PySem.F.plain_extend_loop _, key _ c₀ (fun b o _ e => e) hS₁⟩)
  refine wpAny_bind (wpAny_rule ?_)
  refine wpAny_bind ?_
  show wpAny _ _ (updateSeq S (·.push .none) >>= fun _ => updateSeq S (·.pop)) _ _ _
  refine wpAny_bind (wpAny_updateSeq hS₁ rfl ?_)
  have hS₂ := Heap.get?_update_self (Obj.mapSeq (·.push Value.none)) hS₁ rfl
  refine wpAny_updateSeq (hz := by seq_fits) hS₂ rfl ?_
  have hS₃ := Heap.get?_update_self (Obj.mapSeq (·.pop)) hS₂ rfl
  refine wpAny_pure ⟨plainId_quiet PySem.F.plain_extend_loop _, key _ _ (fun b o hb e => ?_) hS₃⟩
  exact (Heap.get?_update_other _ _ (Ne.symm hb)).trans ((Heap.get?_update_other _ _ (Ne.symm hb)).trans e)
theorem collectK {R : List Value → Shared → Prop} (hh : A.handled = none) (hds : (d == sysModules) = false) (hm : s.heap.DictRaw d es ep) (hn : es.size ≤ sizeLine)
    (h : ∀ h' : Heap, (∀ b o, s.heap.get? b = some o → h'.get? b = some o) → s.heap.objs.size < h'.objs.size → R (es.toList.map (·.key)) { s with heap := h' }) :
    wpAny (model prog w) A (collect (.ref d)) R E s := by
  have hd : d < s.heap.objs.size := raw_lt hm
  unfold collect
  refine wpAny_bind (wpAny_runValue (codeAny_builtin entry_proto_collect' ?_))
  rw [Around.under_plainId PySem.F.plain_proto_collect _]
  show wpAny _ A.in1 (newList [] >>= fun l => again (.builtin "list.__iadd__" ⟨[l, .ref d], []⟩)) _ _ s
  refine wpAny_bind (wpAny_newObj_type ?_)
  refine wpAny_pure ⟨plainId_quiet PySem.F.plain_list_iadd _, codeAny_builtin entry_list_iadd' ?_⟩
  rw [Around.under_plainId PySem.F.plain_list_iadd _]
  have hS₁ : (s.heap.push { cls := .type "list", data := .seq ([] : List Value).toArray }).get? s.heap.objs.size = some { cls := .type "list", data := .seq #[] } := Heap.get?_push_size _ rfl
  show wpAny _ A.in1 (Builtin.List.listExtendWith (.ref s.heap.objs.size) (.ref d) (.ref s.heap.objs.size)) _ _ _
  have key := extK (prog := prog) (w := w) (A := A) (s := { s with heap := s.heap.push { cls := .type "list", data := .seq ([] : List Value).toArray } }) (es := es) (ep := ep)
    (R := fun (q : Result) (s' : Shared) => ∃ (h' : Heap) (acc' : Array Value) (c' : Nat), q = .ok (.ret (.ref s.heap.objs.size)) ∧ s' = { s with heap := h' } ∧
      (∀ b o, s.heap.get? b = some o → h'.get? b = some o) ∧ h'.get? s.heap.objs.size = some { cls := .type "list", dict := none, data := .seq acc' c', slots := #[] } ∧ acc'.toList = es.toList.map (·.key))
    hh hds (raw_at hm fun o e => Heap.get?_push_of_some _ e) s.heap.objs.size (Nat.ne_of_lt hd) (.ref s.heap.objs.size) 0 hS₁
    (fun h' acc' c' hk hS' hacc => ⟨h', acc', c', rfl, rfl, fun b o e => hk b o (Nat.ne_of_lt (Heap.lt_size e)) (Heap.get?_push_of_some _ e), hS', hacc⟩) hn
  refine wpAny_mono key (fun fin s' x => ?_) fun e s' x => ?_
  · cases fin with
    | done f =>
      obtain ⟨h', acc', c', e, rfl, hk, hS', hacc⟩ := x
      cases e
      show wpAny _ A (load s.heap.objs.size >>= _) _ _ _
      refine wpAny_bind (wpAny_load hS' ?_)
      refine wpAny_pure ?_
      show R acc'.toList _
      rw [hacc]
      exact h h' hk (Heap.lt_size hS')
    | again c₁ =>
      refine ⟨x.1, codeAny_mono x.2 fun q s₂ y => ?_⟩
      obtain ⟨h', acc', c', rfl, rfl, hk, hS', hacc⟩ := y
      show wpAny _ A (load s.heap.objs.size >>= _) _ _ _
      refine wpAny_bind (wpAny_load hS' ?_)
      refine wpAny_pure ?_
      show R acc'.toList _
      rw [hacc]
      exact h h' hk (Heap.lt_size hS')
  · obtain ⟨_, _, _, e', _⟩ := x
    cases e'
end
end My
namespace My
open PySem PySem.Spec PyProof.Rows L2
theorem ints_keys {P : Program} {w : World} : ∀ {es : List DictEntry} {xs : List (Key × Value)} {kvs : List (Key × V)} {ns : List Int}, Pairs (mixKind P w) es xs → KV kvs xs → kvs.map (·.1) = ns.map Sum.inl → IntsAre (es.map (·.key)) ns := by
  intro es xs kvs ns hp
  induction hp generalizing kvs ns with
  | nil =>
    intro kv hk
    cases kv
    cases ns with
    | nil => exact .nil
    | cons n ns => cases hk
  | @cons e x es xs h1 h2 _ ih =>
    intro kv hk
    cases kv with
    | @cons a _ l _ hh ht =>
      cases ns with
      | nil => cases hk
      | cons n ns =>
        rw [List.map_cons, List.map_cons] at hk
        have hk1 := (List.cons.inj hk).1
        have hk2 := (List.cons.inj hk).2
        rw [List.map_cons]
        have h1' : keyIs x.1 e.key = true := h1
        rw [← hh.1, hk1] at h1'
        rcases keyIs_shape h1' with ⟨i, t, e1, e2⟩ | ⟨y, t, e1, _⟩
        · rw [e2, Sum.inl.inj e1]
          exact .cons i t (ih ht hk2)
        · cases e1
section
variable {prog : Program} {w : World} {A : Around} {E : Value → Shared → Prop} {s : Shared} {d : Addr} {es : Array DictEntry} {ep : Nat}
theorem sortedK {Q : Value → Shared → Prop} {ns : List Int} (hh : A.handled = none) (hds : (d == sysModules) = false) (hm : s.heap.DictRaw d es ep) (hn : es.size ≤ sizeLine) (hI : IntsAre (es.toList.map (·.key)) ns)
    (h : ∀ (h' : Heap) (p : Addr) (out : List Value) (n : Nat), s.heap.objs.size ≤ p → (∀ b o, s.heap.get? b = some o → h'.get? b = some o) → h'.get? p = some (seqObj "list" out.toArray n) → SrtO.Srtd SrtO.ltIv out → SrtO.Stb SrtO.ltIv out (es.toList.map (·.key)) → Q (.ref p) { s with heap := h' }) :
    wpAny (model prog w) A (call (.builtin "sorted") [.ref d]) Q E s := by
  refine Calls.call_function_entry kind_sorted plain_sorted entry_sorted (args_sorted1 _) ?_
  unfold Builtin.«sorted»
  refine wpAny_bind (m := checkCount "sorted" 1 1 _) (wpAny_pure ?_)
  refine wpAny_bind (collectK (A := A.in1) (es := es) (ep := ep) hh hds hm hn fun h1 hk hlt => ?_)
  have hz : (es.toList.map (·.key)).length ≤ sizeLine := by rw [List.length_map, Array.length_toList]; exact hn
  refine wpAny_bind (wpAny_newList ?_ hz)
  have hoL : (h1.push { cls := .type "list", data := .seq (es.toList.map (·.key)).toArray }).get? h1.objs.size = some (seqObj "list" (es.toList.map (·.key)).toArray 0) := Heap.get?_push_size _ rfl
  have hle : s.heap.objs.size ≤ h1.objs.size := Nat.le_of_lt hlt
  refine wpAny_bind (wpAny_holding (wpAny_call_entry PyProof.Rows.slot_list_sort ⟨_, hoL, rfl⟩ PyProof.Rows.entry_list_sort (SrtO.list_sort_ord SrtO.swo_int hoL hz (fun h2 => SrtO.ints_sortable hI h2) fun out hs hb => ⟨_, rfl, ?_⟩) (PyProof.Rows.args_list_sort _)))
  obtain ⟨n, he⟩ := PyProof.Rows.sortedHeap_at (vs := es.toList.map (·.key)) (out := out.toArray) hoL
  refine wpAny_pure ⟨_, rfl, h _ h1.objs.size out n hle (fun b o hb => ?_) he hs hb⟩
  have hb1 := hk b o hb
  rw [PyProof.Rows.sortedHeap_old (Nat.ne_of_lt (Heap.lt_size hb1)) (by rw [Heap.size_push]; exact Nat.lt_succ_of_lt (Heap.lt_size hb1))]
  exact Heap.get?_push_of_some _ hb1
end
/-- sorted(d), a dict with int keys -/
def rSortedDI : List V → Hp → VK → Prop := fun vs H Q => ∃ (a : Addr) (kvs : List (Key × V)) (ns : List Int), vs = [V.ref a] ∧ H a = some (.dK kvs) ∧ kvs.map (·.1) = ns.map Sum.inl ∧
  ∀ (ns' : List Int) (p : Addr), ns'.Perm ns → ns'.Pairwise (· ≤ ·) → H p = none → Q (.ref p) (upd H p (.lst (ns'.map V.int)))
theorem cr_sortedDI {X : Cx} (hc : X.calm = true) : CallR X (.builtin "sorted") rSortedDI := by
  intro pins s σ H vs us Q I r h
  obtain ⟨a, kvs, ns, rfl, ha, hk, q⟩ := h
  obtain ⟨hz, hds, xs, kv, o, es, ep, ho, hx, hdat, _, hp, _⟩ := dk_of I.hok ha
  rw [Vals.ref1 r]
  have hI := ints_keys hp kv hk
  have l1 : kvs.length = ns.length := by
    have := congrArg List.length hk
    rw [List.length_map, List.length_map] at this
    exact this
  have hln : ∀ {vs : List Value} {ns : List Int}, IntsAre vs ns → vs.length = ns.length := fun h => by
    induction h with
    | nil => rfl
    | cons _ _ _ ih => rw [List.length_cons, List.length_cons, ih]
  have l2 := hln hI
  rw [List.length_map, Array.length_toList] at l2
  refine sortedK (ns := ns) (I.ok.hd hc) hds ⟨o, ho, hx, hdat⟩ (by omega) hI fun h' p out n hle hkp he h1 h2 => ?_
  obtain ⟨k1, k2, k3⟩ := SrtO.ints_out hI h1 h2
  have hlen : ((out.map SrtO.iv).map V.int).length ≤ sizeLine := by
    rw [List.length_map, k2.length_eq]
    omega
  exact ⟨.ref _, upd H p (.lst ((out.map SrtO.iv).map V.int)), I.laid (t' := s.toks) hkp hle ⟨hlen, out, n, vals_of_ints k1, he⟩, rfl, q _ _ k2 k3 (I.hok.fresh hle)⟩
end My
namespace My
open PySem PySem.Spec PyProof.Rows L2
/-! ### sorted() of a list of tuples of ints, any number of them -/
def TupI (h : Heap) (v : Value) (ns : List Int) : Prop := ∃ (t : Addr) (items : Array Value), v = .ref t ∧ IsTup h t items ∧ IntsAre items.toList ns
theorem TupI.keeps {h h' : Heap} {v : Value} {ns : List Int} (x : TupI h v ns) (kp : ∀ b o, h.get? b = some o → o.cls = .type "tuple" → h'.get? b = some o) : TupI h' v ns := by
  obtain ⟨t, items, e, ⟨o, ho, hc, hd⟩, hi⟩ := x
  exact ⟨t, items, e, ⟨o, kp t o ho hc, hc, hd⟩, hi⟩
section
variable {prog : Program} {w : World} {A : Around} {E : Value → Shared → Prop} {s : Shared}
theorem kt_ints {b : Bool} {Q : Bool → Shared → Prop} : ∀ {xs ys : List Value} {ns ms : List Int} {i : Nat} {fin : Bool}, IntsAre xs ns → IntsAre ys ms → fin = decide (ns.length < ms.length) → Q (HT.lexLt ns ms) s → PySem.W.KatLex prog w A b fin Q (xs.zip ys) i s
  | [], [], _, _, _, _, .nil, .nil, hf, h => by
    refine PySem.W.kat_nil ?_
    rw [hf]
    exact h
  | [], _ :: _, _, _, _, _, .nil, .cons _ _ _, hf, h => by
    refine PySem.W.kat_nil ?_
    rw [hf]
    exact h
  | _ :: _, [], _, _, _, _, .cons _ _ _, .nil, hf, h => by
    refine PySem.W.kat_nil ?_
    rw [hf]
    exact h
  | _ :: xs, _ :: ys, _, _, i, fin, .cons x t r, .cons y u r2, hf, h => by
    rw [List.zip_cons_cons]
    refine PySem.W.kat_cons (SeqAt.EqAt.int_int x t y u prog w _ _ ?_)
    rw [HT.lexLt_cons] at h
    refine PySem.W.kat_go (fun e1 => ?_) (fun e1 => ?_)
    · have ex : x = y := by simpa using e1
      rw [if_pos ex] at h
      refine PySem.W.kat_yes (kt_ints r r2 ?_ h)
      rw [hf]
      exact decide_eq_decide.mpr (by rw [List.length_cons, List.length_cons]; omega)
    · have ex : ¬ x = y := by simpa using e1
      rw [if_neg ex] at h
      exact PySem.W.kat_no (TS.oneLt_ints _ h)
theorem ti_cmp {vs : List Value} {k : Value → List Int} (hp : ∀ v ∈ vs, TupI s.heap v (k v)) : SrtO.Cmp prog w A s (tuples' true) (fun p => p.1 ∈ vs) (SrtO.lt2 fun v u => HT.lexLt (k v) (k u)) := by
  intro p q m1 m2
  obtain ⟨t1, i1, e1, ⟨o1, g1, _, n1, d1⟩, j1⟩ := hp _ m1
  obtain ⟨t2, i2, e2, ⟨o2, g2, _, n2, d2⟩, j2⟩ := hp _ m2
  show wpAny (model prog w) A (keyLt' (tuples' true) p.1 q.1) (fun r s' => s' = s ∧ r = HT.lexLt (k p.1) (k q.1)) (fun _ _ => False) s
  generalize k p.1 = ns at j1 ⊢
  generalize k q.1 = ms at j2 ⊢
  rw [e1, e2]
  refine PySem.W.kat_lt g1 d1 g2 d2 (kt_ints j1 j2 ?_ ⟨rfl, rfl⟩)
  rw [← j1.length, ← j2.length, Array.length_toList, Array.length_toList]
theorem ti_lt {v u : Value} {ns ms : List Int} {Q : Bool → Shared → Prop} (hu : A.units < cLine) (h1 : TupI s.heap v ns) (h2 : TupI s.heap u ms) (q : Q (HT.lexLt ns ms) s) : wpAny (model prog w) A (keyLt' oneType' v u) Q E s := by
  obtain ⟨t1, i1, rfl, p1, j1⟩ := h1
  obtain ⟨t2, i2, rfl, p2, j2⟩ := h2
  obtain ⟨⟨cls, dd, data, sl⟩, ho, hc, n, hd⟩ := id p1
  obtain ⟨⟨cls2, dd2, data2, sl2⟩, ho2, hc2, n2, hd2⟩ := id p2
  simp only at hc hd hc2 hd2
  subst hc hd hc2 hd2
  rw [keyLt'_oneType, oneLt'_eq]
  simp only [if_true]
  have tt : s.TypeIs (.ref t1) "tuple" := ⟨_, ho, rfl⟩
  refine wpAny_bind (wpAny_cRoomFor hu (wpAny_bind (wpAny_callSpecialIfBound?_slot tt PySem.F.slot_tuple_lt ?_)))
  exact call_meets PySem.F.slot_tuple_lt tt PySem.F.entry_tuple_lt (PySem.F.args_tuple_lt_2 _ _) (HT.tuple_lt_ints t1 t2 i1 i2 n n2 dd dd2 sl sl2 ns ms j1 j2) ⟨ho, ho2, wpAny_truthy_bool q⟩
theorem ti_cmp1 {vs : List Value} {k : Value → List Int} (hu : A.units < cLine) (hp : ∀ v ∈ vs, TupI s.heap v (k v)) : SrtO.Cmp prog w A s oneType' (fun p => p.1 ∈ vs) (SrtO.lt2 fun v u => HT.lexLt (k v) (k u)) :=
  fun p q m1 m2 => ti_lt (Q := fun r s' => s' = s ∧ r = HT.lexLt (k p.1) (k q.1)) (E := fun _ _ => False) hu (hp p.1 m1) (hp q.1 m2) ⟨rfl, rfl⟩
theorem ti_type {M : Model} {v : Value} {ns : List Int} (h : TupI s.heap v ns) : PySem.W.Looks M s.heap (typeOf v) (.type "tuple") := by
  obtain ⟨t, i, rfl, ⟨o, ho, hc, _⟩, _⟩ := h
  have : PySem.W.Looks M s.heap (typeOf (.ref t)) o.cls := (PySem.W.Looks.ld ho).andThen .now
  rw [hc] at this
  exact this
theorem ti_firsts {h : Heap} : ∀ (vs : List Value), (∀ v ∈ vs, ∃ n ns, TupI h v (n :: ns)) → ∃ fs, PySem.W.KatTups h vs fs ∧ fs.length = vs.length ∧ ∀ f ∈ fs, ∃ n t, f = Value.int n t
  | [], _ => ⟨[], .nil, rfl, fun f z => by cases z⟩
  | v :: vs, H => by
    obtain ⟨fs, a1, a2, a3⟩ := ti_firsts vs fun u hu => H u (List.mem_cons_of_mem _ hu)
    obtain ⟨n, ns, t, items, rfl, ⟨o, ho, hc, k, hd⟩, hi⟩ := H v (List.mem_cons_self ..)
    obtain ⟨xs⟩ := items
    cases hi with
    | cons _ tk r =>
      refine ⟨_ :: fs, PySem.W.KatTups.cons ho hc hd rfl a1, by rw [List.length_cons, List.length_cons, a2], fun f hf => ?_⟩
      rcases List.mem_cons.mp hf with rfl | hf
      · exact ⟨n, tk, rfl⟩
      · exact a3 f hf
theorem ti_mapM {M : Model} : ∀ (vs : List Value) {Q : List (Option Value) → Shared → Prop}, (∀ v ∈ vs, ∃ ns, TupI s.heap v ns) → (∀ fs, Q fs s) → wpAny M A (vs.mapM firstOfTuple') Q E s
  | [], Q, _, q => by
    rw [List.mapM_nil]
    exact wpAny_pure (q [])
  | v :: vs, Q, H, q => by
    obtain ⟨ns, hv⟩ := H v (List.mem_cons_self ..)
    have ty := ti_type (M := M) hv
    obtain ⟨t, items, rfl, ⟨o, ho, hc, k, hd⟩, hi⟩ := hv
    rw [List.mapM_cons, PySem.W.kas_first_eq]
    refine wpAny_bind (wpAny_bind (ty.here ?_))
    rw [if_neg (by decide)]
    exact wpAny_bind (PyProof.Rows.listItems_at ho hd (wpAny_pure (wpAny_bind (ti_mapM vs (Q := fun bs s' => wpAny M A (pure (_ :: bs)) Q E s') (fun u hu => H u (List.mem_cons_of_mem _ hu)) fun fs => wpAny_pure (q _)))))
theorem ti_kind1 {M : Model} {v : Value} {vs : List Value} {Q : SortKind → Shared → Prop} (h0 : TupI s.heap v []) (H : ∀ u ∈ vs, ∃ ns, TupI s.heap u ns) (q : Q oneType' s) : wpAny M A (keyKind' (v :: vs).toArray) Q E s := by
  have ty : ∀ u ∈ v :: vs, PySem.W.Looks M s.heap (typeOf u) (.type "tuple") := fun u hu => by
    rcases List.mem_cons.mp hu with rfl | hu
    · exact ti_type h0
    · obtain ⟨ns, h⟩ := H u hu
      exact ti_type h
  have tv := ty v (List.mem_cons_self ..)
  obtain ⟨t, items, rfl, ⟨o, ho, hc, k, hd⟩, hi⟩ := h0
  obtain ⟨xs⟩ := items
  cases hi
  rw [keyKind'_eq, List.mapM_toArray, map_eq_pure_bind, List.mapM_cons, PySem.W.kas_first_eq]
  refine wpAny_bind (wpAny_bind (wpAny_bind (wpAny_bind (tv.here ?_))))
  rw [if_neg (by decide)]
  refine wpAny_bind (PyProof.Rows.listItems_at ho hd (wpAny_pure ?_))
  refine wpAny_bind (ti_mapM vs H fun fs => wpAny_pure (wpAny_pure ?_))
  rw [if_neg (by simp), if_neg (by simp)]
  rw [oneTypeOnly'_eq, List.mapM_toArray, map_eq_pure_bind]
  refine wpAny_bind (wpAny_bind (wpAny_bind (PySem.W.kas_mapM (r := Value.type "tuple") _ (fun u hu Q' hq => (ty u hu).here hq) (wpAny_pure ?_))))
  have z0 : (List.map (fun _ => Value.type "tuple") (Value.ref t :: vs)).toArray[0]? = some (Value.type "tuple") := by simp
  rw [z0]
  have z1 : ((List.map (fun _ => Value.type "tuple") (Value.ref t :: vs)).toArray.all fun x => x == Value.type "tuple") = true := by
    simp only [List.all_toArray, List.all_map, List.all_eq_true]
    intro _ _
    exact beq_self_eq_true _
  simp only [z1, if_true]
  exact wpAny_pure (wpAny_pure q)
theorem ti_sortable {a : Addr} {vs : List Value} {k : Value → List Int} (hu : A.units < cLine) (h0 : 0 < vs.length) (hp : ∀ v ∈ vs, TupI s.heap v (k v)) (hk : (∀ v ∈ vs, k v ≠ []) ∨ ∃ v r, vs = v :: r ∧ k v = []) (ha : ∀ o, s.heap.get? a = some o → o.cls ≠ .type "tuple") : SrtO.SortableO prog w A s a vs fun v u => HT.lexLt (k v) (k u) := by
  intro h' keep
  have hp' : ∀ v ∈ vs, TupI h' v (k v) := fun v hm => (hp v hm).keeps fun b o e c => keep b o (fun z => ha o (by rw [← z]; exact e) c) e
  rcases hk with hk | ⟨v, r, rfl, hv⟩
  · obtain ⟨fs, a1, a2, a3⟩ := ti_firsts (h := h') vs fun v hv => by
      have h1 := hp' v hv
      have h2 := hk v hv
      cases hh : k v with
      | nil => exact absurd hh h2
      | cons n ns =>
        rw [hh] at h1
        exact ⟨n, ns, h1⟩
    refine ⟨tuples' true, fun Q E hq => ?_, ti_cmp (s := { s with heap := h' }) hp'⟩
    refine PySem.W.kat_kind (T := .type "int") a1 (by omega) (fun f hm => ?_) (by rfl) ?_
    · obtain ⟨n, t, rfl⟩ := a3 f hm
      exact PySem.W.Looks.now
    · rw [show (Value.type "int" != Value.type "tuple") = true by decide]
      exact hq
  · refine ⟨oneType', fun Q E hq => ?_, ti_cmp1 (s := { s with heap := h' }) hu hp'⟩
    refine ti_kind1 (s := { s with heap := h' }) ?_ (fun u hu => ⟨_, hp' u (List.mem_cons_of_mem _ hu)⟩) hq
    have := hp' v (List.mem_cons_self ..)
    rw [hv] at this
    exact this
end
def bkW : Value → V
  | .ref a => .ref a
  | _ => .non
theorem bkW_refs : ∀ {xs : List V} {us : List Value}, Vals xs us → (∀ x ∈ xs, ∃ a, x = V.ref a) → xs = us.map bkW ∧ ∀ u ∈ us, ∃ a, u = Value.ref a
  | _, _, .nil, _ => ⟨rfl, fun u hu => by cases hu⟩
  | x :: xs, _ :: us, .cons r t, h => by
    obtain ⟨a, rfl⟩ := h x (List.mem_cons_self ..)
    cases r
    obtain ⟨h1, h2⟩ := bkW_refs t fun y hy => h y (List.mem_cons_of_mem _ hy)
    refine ⟨by rw [List.map_cons, ← h1]; rfl, fun u hu => ?_⟩
    rcases List.mem_cons.mp hu with rfl | hu
    · exact ⟨a, rfl⟩
    · exact h2 u hu
theorem bkW_vals : ∀ {us : List Value}, (∀ u ∈ us, ∃ a, u = Value.ref a) → Vals (us.map bkW) us
  | [], _ => .nil
  | u :: us, h => by
    obtain ⟨a, rfl⟩ := h u (List.mem_cons_self ..)
    exact .cons (show RelV (.ref a) (.ref a) from rfl) (bkW_vals fun y hy => h y (List.mem_cons_of_mem _ hy))
/-- sorted(xs), xs a list of tuples of ints of any number and lengths (none of them empty, or the first one) -/
def rSortedTs (K : PySem.W.Frag) : List V → Hp → VK → Prop := fun vs H Q => ∃ (a : Addr) (xs : List V) (k : V → List Int), vs = [V.ref a] ∧ SqL K H a xs ∧ (∀ x ∈ xs, ∃ t, x = V.ref t ∧ SqT K H t ((k x).map V.int)) ∧ ((∀ x ∈ xs, k x ≠ []) ∨ ∃ x r, xs = x :: r ∧ k x = []) ∧
  ∀ ys p, ys.Perm xs → ys.Pairwise (fun x y => HT.lexLt (k y) (k x) = false) → H p = none → Q (.ref p) (upd H p (.lst ys))
theorem cr_sortedTs {X : Cx} (hu : X.A.units + 64 < cLine) : CallR X (.builtin "sorted") (rSortedTs X.K) := by
  intro pins s σ H vs us Q I r h
  obtain ⟨a, xs, k, rfl, hs, hx, hk, q⟩ := h
  obtain ⟨its, rv, hl, hz⟩ := I.list hs
  obtain ⟨u, rfl, ru⟩ := vals1 r
  obtain rfl : u = Value.ref a := ru
  obtain ⟨e1, e2⟩ := bkW_refs rv fun x m => by
    obtain ⟨t, e, _⟩ := hx x m
    exact ⟨t, e⟩
  have ht : ∀ v ∈ its, TupI s.heap v (k (bkW v)) := fun v hv => by
    obtain ⟨t, rfl⟩ := e2 v hv
    have hm : V.ref t ∈ xs := by
      rw [e1]
      exact List.mem_map.mpr ⟨_, hv, rfl⟩
    obtain ⟨t', e, h1⟩ := hx _ hm
    cases e
    obtain ⟨is, r2, hT, _⟩ := I.tuple h1
    exact ⟨t, is.toArray, rfl, hT, show IntsAre is.toArray.toList (k (V.ref t)) by simpa using r2.ints⟩
  have hk' : (∀ v ∈ its, k (bkW v) ≠ []) ∨ ∃ v r, its = v :: r ∧ k (bkW v) = [] := by
    rcases hk with hk | ⟨x, r, e, hx⟩
    · exact .inl fun v hv => hk _ (by rw [e1]; exact List.mem_map_of_mem hv)
    · cases its with
      | nil =>
        rw [e] at e1
        cases e1
      | cons v vs =>
        rw [e1, List.map_cons] at e
        refine .inr ⟨v, vs, rfl, ?_⟩
        rw [(List.cons.inj e).1]
        exact hx
  refine SrtO.sorted_ord (NtL.swo_lexL fun u => k (bkW u)) hl.isList (by rw [← rv.length]; exact hz) (fun h2 h₁ a ha kk => ?_) fun out hs hb => ?_
  · refine ti_sortable (s := { s with heap := h₁ }) (by show X.A.units + 1 + 1 < cLine; omega) (by omega) (fun v hm => (ht v hm).keeps fun b o e _ => (kk b o e).2) hk' fun o e => ?_
    have e' : some o = some (seqObj "list" its.toArray 0) := e.symm.trans ha
    cases e'
    intro c
    exact absurd (Value.type.inj c) (by decide)
  · have h3 : ∀ u ∈ out, ∃ a, u = Value.ref a := fun u hu => e2 u (hb.perm.mem_iff.mp hu)
    have hp : (out.map bkW).Perm xs := by
      rw [e1]
      exact hb.perm.map bkW
    obtain ⟨n, hn⟩ := PyProof.Rows.sortedAll_at s.heap its out.toArray
    refine ⟨.ref _, upd H (s.heap.objs.size + 1) (.lst (out.map bkW)), I.laid (t' := s.toks) (fun _ _ => PyProof.Rows.sortedAll_old) (Nat.le_succ _) ⟨?_, out, n, bkW_vals h3, hn⟩, rfl, q _ _ hp ?_ (I.hok.fresh (Nat.le_succ _))⟩
    · rw [hp.length_eq]
      exact hz
    · rw [List.pairwise_map]
      exact hs
end My
set_option maxHeartbeats 1000000
namespace My
open PySem PySem.Spec PyProof.Rows L2
/-! ### sorted(dict), the keys tuples of ints -/
def vI : V → Int
  | .int i => i
  | _ => 0
def kOf (H : Hp) : Value → List Int
  | .ref b => match H b with
    | some (.tup xs) => xs.map vI
    | _ => []
  | _ => []
theorem vI_map (k : List Int) : (k.map V.int).map vI = k := by
  rw [List.map_map]
  exact List.map_id'' (fun _ => rfl) k
section
variable {prog : Program} {w : World} {A : Around} {E : Value → Shared → Prop} {s : Shared} {d : Addr} {es : Array DictEntry} {ep : Nat}
theorem sortedKT {Q : Value → Shared → Prop} {κ : Value → List Int} (hh : A.handled = none) (hds : (d == sysModules) = false) (hm : s.heap.DictRaw d es ep) (hn : es.size ≤ sizeLine) (hu : A.units + 64 < cLine) (hI : ∀ v ∈ es.toList.map (·.key), TupI s.heap v (κ v)) (hne : ∀ v ∈ es.toList.map (·.key), κ v ≠ [])
    (h : ∀ (h' : Heap) (p : Addr) (out : List Value) (n : Nat), s.heap.objs.size ≤ p → (∀ b o, s.heap.get? b = some o → h'.get? b = some o) → h'.get? p = some (seqObj "list" out.toArray n) → SrtO.Srtd (fun v u => HT.lexLt (κ v) (κ u)) out → SrtO.Stb (fun v u => HT.lexLt (κ v) (κ u)) out (es.toList.map (·.key)) → Q (.ref p) { s with heap := h' }) :
    wpAny (model prog w) A (call (.builtin "sorted") [.ref d]) Q E s := by
  refine Calls.call_function_entry kind_sorted plain_sorted entry_sorted (args_sorted1 _) ?_
  unfold Builtin.«sorted»
  refine wpAny_bind (m := checkCount "sorted" 1 1 _) (wpAny_pure ?_)
  refine wpAny_bind (collectK (A := A.in1) (es := es) (ep := ep) hh hds hm hn fun h1 hk hlt => ?_)
  have hz : (es.toList.map (·.key)).length ≤ sizeLine := by rw [List.length_map, Array.length_toList]; exact hn
  refine wpAny_bind (wpAny_newList ?_ hz)
  have hoL : (h1.push { cls := .type "list", data := .seq (es.toList.map (·.key)).toArray }).get? h1.objs.size = some (seqObj "list" (es.toList.map (·.key)).toArray 0) := Heap.get?_push_size _ rfl
  have hle : s.heap.objs.size ≤ h1.objs.size := Nat.le_of_lt hlt
  refine wpAny_bind (wpAny_holding (wpAny_call_entry PyProof.Rows.slot_list_sort ⟨_, hoL, rfl⟩ PyProof.Rows.entry_list_sort (SrtO.list_sort_ord (NtL.swo_lexL κ) hoL hz (fun h2 => ?_) fun out hs hb => ⟨_, rfl, ?_⟩) (PyProof.Rows.args_list_sort _)))
  · refine ti_sortable (by show A.units + 1 + 1 < cLine; omega) (by omega) (fun v hm => (hI v hm).keeps fun b o e _ => Heap.get?_push_of_some _ (hk b o e)) (.inl hne) fun o e => ?_
    have e' : some o = some (seqObj "list" (es.toList.map (·.key)).toArray 0) := e.symm.trans hoL
    cases e'
    intro c
    exact absurd (Value.type.inj c) (by decide)
  obtain ⟨n, he⟩ := PyProof.Rows.sortedHeap_at (vs := es.toList.map (·.key)) (out := out.toArray) hoL
  refine wpAny_pure ⟨_, rfl, h _ h1.objs.size out n hle (fun b o hb => ?_) he hs hb⟩
  have hb1 := hk b o hb
  rw [PyProof.Rows.sortedHeap_old (Nat.ne_of_lt (Heap.lt_size hb1)) (by rw [Heap.size_push]; exact Nat.lt_succ_of_lt (Heap.lt_size hb1))]
  exact Heap.get?_push_of_some _ hb1
end
theorem kOf_at {H : Hp} {b : Addr} {k : List Int} (h : H b = some (.tup (k.map V.int))) : kOf H (.ref b) = k := by
  show (match H b with
    | some (.tup xs) => xs.map vI
    | _ => []) = k
  rw [h]
  exact vI_map k
def rSortedDT (K : PySem.W.Frag) : List V → Hp → VK → Prop := fun vs H Q => ∃ (a : Addr) (kvs : List (List Key × V)) (kss : List (List Int)), vs = [V.ref a] ∧ H a = some (.dT kvs) ∧ kvs.map (·.1) = kss.map (fun k => k.map Sum.inl) ∧ (∀ k ∈ kss, k ≠ []) ∧
  ∀ (ks : List (List Int)) (ys : List V) (p : Addr), ks.Perm kss → ks.Pairwise (fun x y => HT.lexLt y x = false) → Two (fun y k => ∃ t, y = V.ref t ∧ H t = some (.tup (k.map V.int))) ys ks → H p = none → Q (.ref p) (upd H p (.lst ys))
theorem two_map {α β γ : Type} {R : α → β → Prop} (f : γ → α) (g : γ → β) : ∀ (xs : List γ), (∀ x ∈ xs, R (f x) (g x)) → Two R (xs.map f) (xs.map g)
  | [], _ => .nil
  | x :: xs, h => .cons (h x (List.mem_cons_self ..)) (two_map f g xs fun y hy => h y (List.mem_cons_of_mem _ hy))
theorem dt_keys {H : Hp} : ∀ {kvs : List (List Key × V)} {xs : List (List Key × Addr × Value)} {kss : List (List Int)}, Paired (fun (p : List Key × V) (q : List Key × Addr × Value) => p.1 = q.1 ∧ H q.2.1 = some (.tup (p.1.map kV)) ∧ RelV p.2 q.2.2) kvs xs → kvs.map (·.1) = kss.map (fun k => k.map Sum.inl) →
    Two (fun (q : List Key × Addr × Value) k => H q.2.1 = some (.tup (k.map V.int))) xs kss := by
  intro kvs xs kss pr
  induction pr generalizing kss with
  | nil =>
    intro e
    cases kss with
    | nil => exact .nil
    | cons _ _ => cases e
  | cons h _ ih =>
    intro e
    cases kss with
    | nil => cases e
    | cons k kss =>
      rw [List.map_cons, List.map_cons] at e
      have e1 := (List.cons.inj e).1
      refine .cons ?_ (ih (List.cons.inj e).2)
      rw [h.2.1, e1, List.map_map]
      rfl
theorem cr_sortedDT {X : Cx} (hc : X.calm = true) (hu : X.A.units + 64 < cLine) : CallR X (.builtin "sorted") (rSortedDT X.K) := by
  intro pins s σ H vs us Q I r h
  obtain ⟨a, kvs, kss, rfl, ha, hk, hne, q⟩ := h
  obtain ⟨hz, hds, xs, pr, o, es, ep, ho, hx, hdat, hes, _⟩ := I.hok a _ ha
  rw [Vals.ref1 r]
  have two := dt_keys pr hk
  have ek : es.toList.map (·.key) = xs.map fun q => Value.ref q.2.1 := by
    rw [hes, List.map_map]
    rfl
  have kx : ∀ x ∈ xs, ∃ k ∈ kss, H x.2.1 = some (.tup (k.map V.int)) := fun x hx => by
    obtain ⟨i, hi, rfl⟩ := List.getElem_of_mem hx
    obtain ⟨k, hk, e⟩ := two.get (List.getElem?_eq_getElem hi)
    exact ⟨k, List.mem_of_getElem? hk, e⟩
  have hI : ∀ v ∈ es.toList.map (·.key), TupI s.heap v (kOf H v) := fun v hv => by
    rw [ek] at hv
    obtain ⟨x, hx, rfl⟩ := List.mem_map.mp hv
    obtain ⟨k, _, e⟩ := kx x hx
    rw [kOf_at e]
    obtain ⟨is, r2, hT, _⟩ := I.tuple (SqT.of (K := X.K) e)
    exact ⟨x.2.1, is.toArray, rfl, hT, show IntsAre is.toArray.toList k by simpa using r2.ints⟩
  have hne2 : ∀ v ∈ es.toList.map (·.key), kOf H v ≠ [] := fun v hv => by
    rw [ek] at hv
    obtain ⟨x, hx, rfl⟩ := List.mem_map.mp hv
    obtain ⟨k, hk, e⟩ := kx x hx
    rw [kOf_at e]
    exact hne k hk
  have ksx : (xs.map fun q => Value.ref q.2.1).map (kOf H) = kss := by
    have : ∀ {xs : List (List Key × Addr × Value)} {kss : List (List Int)}, Two (fun (q : List Key × Addr × Value) k => H q.2.1 = some (.tup (k.map V.int))) xs kss → (xs.map fun q => Value.ref q.2.1).map (kOf H) = kss := fun h => by
      induction h with
      | nil => rfl
      | cons e _ ih => rw [List.map_cons, List.map_cons, ih, kOf_at e]
    exact this two
  have lx : es.size = xs.length := by rw [← Array.length_toList, hes, List.length_map]
  have lk : kvs.length = xs.length := by
    have h1 := two.len
    have h2 := congrArg List.length hk
    rw [List.length_map, List.length_map] at h2
    omega
  refine sortedKT (κ := kOf H) (I.ok.hd hc) hds ⟨o, ho, hx, hdat⟩ (by omega) hu hI hne2 fun h' p out n hle hkp he h1 h2 => ?_
  have pm := h2.perm
  rw [ek] at pm
  have oref : ∀ v ∈ out, ∃ x ∈ xs, v = Value.ref x.2.1 := fun v hv => by
    obtain ⟨x, hx, e⟩ := List.mem_map.mp (pm.mem_iff.mp hv)
    exact ⟨x, hx, e.symm⟩
  have hlen : (out.map bkW).length ≤ sizeLine := by
    rw [List.length_map, pm.length_eq, List.length_map]
    omega
  refine ⟨.ref _, upd H p (.lst (out.map bkW)), I.laid (t' := s.toks) hkp hle ⟨hlen, out, n, bkW_vals fun u hu => ?_, he⟩, rfl, q (out.map (kOf H)) _ _ ?_ ?_ ?_ (I.hok.fresh hle)⟩
  · obtain ⟨x, _, e⟩ := oref u hu
    exact ⟨_, e⟩
  · rw [← ksx]
    exact pm.map _
  · rw [List.pairwise_map]
    exact h1
  · refine two_map bkW (kOf H) out fun v hv => ?_
    obtain ⟨x, hx, rfl⟩ := oref v hv
    obtain ⟨k, _, e⟩ := kx x hx
    exact ⟨x.2.1, rfl, by rw [kOf_at e]; exact e⟩
end My
namespace My
open PySem PySem.Spec PyProof.Rows L2
/-! ### what the builders of expressions count -/
def E.leaves : E → Nat
  | .eps => 1
  | .sym _ => 1
  | .maybe e => e.leaves
  | .many e => e.leaves
  | .join es => leavess es
  | .alt es => leavess es
where leavess : List E → Nat
  | [] => 0
  | e :: es => e.leaves + leavess es
def E.wr : E → Nat
  | .eps => 0
  | .sym _ => 0
  | .maybe e => e.wr + 1
  | .many e => e.wr + 1
  | .join es => wrs es
  | .alt es => wrs es
where wrs : List E → Nat
  | [] => 0
  | e :: es => e.wr + wrs es
theorem leavess_eq (es : List E) : E.leaves.leavess es = (es.map E.leaves).sum := by
  induction es with
  | nil => rfl
  | cons e es ih => rw [E.leaves.leavess, ih, List.map_cons, List.sum_cons]
theorem wrs_eq (es : List E) : E.wr.wrs es = (es.map E.wr).sum := by
  induction es with
  | nil => rfl
  | cons e es ih => rw [E.wr.wrs, ih, List.map_cons, List.sum_cons]
structure Cnt (e : E) : Prop where
  l : 1 ≤ e.leaves
  d : e.depth + 1 ≤ e.leaves + e.wr
  p : e.parts + 1 ≤ 2 * e.leaves + e.wr
  s : e.toD.size ≤ 4 * e.parts
structure Cnts (es : List E) : Prop where
  l : es.length ≤ E.leaves.leavess es
  d : E.depth.depths es + es.length ≤ E.leaves.leavess es + E.wr.wrs es
  p : E.parts.partss es + es.length ≤ 2 * E.leaves.leavess es + E.wr.wrs es
  s : D.size.sizes (E.toD.toDs es) ≤ 4 * E.parts.partss es
mutual
theorem cnt : ∀ {e : E}, e.ok = true → Cnt e
  | .eps, _ => ⟨by rw [E.leaves]; omega, by rw [E.leaves, E.depth, E.wr]; omega, by rw [E.leaves, E.parts, E.wr]; omega, by rw [E.toD, D.size, E.parts]; omega⟩
  | .sym c, _ => ⟨by rw [E.leaves]; omega, by rw [E.leaves, E.depth, E.wr]; omega, by rw [E.leaves, E.parts, E.wr]; omega, by rw [E.toD, D.size, E.parts]; omega⟩
  | .maybe e, h => by
    rw [E.ok] at h
    have c := cnt h
    obtain ⟨c1, c2, c3, c4⟩ := c
    refine ⟨by rw [E.leaves]; omega, by rw [E.leaves, E.depth, E.wr]; omega, by rw [E.leaves, E.parts, E.wr]; omega, ?_⟩
    simp only [E.toD, D.size, D.size.sizes, E.parts]
    omega
  | .many e, h => by
    rw [E.ok] at h
    have c := cnt h
    obtain ⟨c1, c2, c3, c4⟩ := c
    refine ⟨by rw [E.leaves]; omega, by rw [E.leaves, E.depth, E.wr]; omega, by rw [E.leaves, E.parts, E.wr]; omega, ?_⟩
    simp only [E.toD, D.size, D.size.sizes, E.parts]
    omega
  | .join es, h => by
    rw [E.ok] at h
    simp only [Bool.and_eq_true, decide_eq_true_eq] at h
    obtain ⟨c1, c2, c3, c4⟩ := cnts h.1.2
    have h2 := h.1.1
    refine ⟨by rw [E.leaves]; omega, by rw [E.leaves, E.depth, E.wr]; omega, by rw [E.leaves, E.parts, E.wr]; omega, ?_⟩
    simp only [E.toD, D.size, D.size.sizes, E.parts]
    omega
  | .alt es, h => by
    rw [E.ok] at h
    simp only [Bool.and_eq_true, decide_eq_true_eq] at h
    obtain ⟨c1, c2, c3, c4⟩ := cnts h.1.2
    have h2 := h.1.1
    refine ⟨by rw [E.leaves]; omega, by rw [E.leaves, E.depth, E.wr]; omega, by rw [E.leaves, E.parts, E.wr]; omega, ?_⟩
    simp only [E.toD, D.size, D.size.sizes, E.parts]
    omega
theorem cnts : ∀ {es : List E}, E.ok.oks es = true → Cnts es
  | [], _ => ⟨Nat.le_refl _, Nat.le_refl _, Nat.le_refl _, Nat.le_refl _⟩
  | e :: es, h => by
    rw [E.ok.oks, Bool.and_eq_true] at h
    obtain ⟨a1, a2, a3, a4⟩ := cnt h.1
    obtain ⟨c1, c2, c3, c4⟩ := cnts h.2
    refine ⟨?_, ?_, ?_, ?_⟩
    · rw [E.leaves.leavess, List.length_cons]; omega
    · rw [E.leaves.leavess, E.wr.wrs, E.depth.depths, List.length_cons]
      rcases Nat.le_total e.depth (E.depth.depths es) with hh | hh
      · rw [Nat.max_eq_right hh]; omega
      · rw [Nat.max_eq_left hh]; omega
    · rw [E.leaves.leavess, E.wr.wrs, E.parts.partss, List.length_cons]; omega
    · rw [E.toD.toDs, D.size.sizes, E.parts.partss]; omega
end
/-! ### a row of two -/
def kidsOf (b : Bool) : E → List E
  | .join es => if b then es else [.join es]
  | .alt es => if b then [.alt es] else es
  | e => [e]
def rowE (b : Bool) (es : List E) : E := if b then .join es else .alt es
def mkRow (b : Bool) (x y : E) : E := rowE b (kidsOf b x ++ kidsOf b y)
structure KidsOk (b : Bool) (es : List E) : Prop where
  n : 1 ≤ es.length
  ok : es.all E.ok = true
  no : es.any (fun e => if b then isJoin e else isAlt e) = false
theorem kids_okB {b : Bool} {e : E} (h : e.ok = true) : KidsOk b (kidsOf b e) := by
  have one : ∀ e : E, e.ok = true → (if b then isJoin e else isAlt e) = false → KidsOk b [e] := fun e h1 h2 => ⟨Nat.le_refl _, by rw [List.all_cons, h1]; rfl, by rw [List.any_cons, h2]; rfl⟩
  cases e with
  | eps => exact one _ h (by cases b <;> rfl)
  | sym c => exact one _ h (by cases b <;> rfl)
  | maybe e => exact one _ h (by cases b <;> rfl)
  | many e => exact one _ h (by cases b <;> rfl)
  | join es =>
    cases b
    · exact one _ h rfl
    · rw [E.ok, oks_eq] at h
      simp only [Bool.and_eq_true, decide_eq_true_eq, Bool.not_eq_true'] at h
      exact ⟨Nat.le_trans (by decide) h.1.1, h.1.2, h.2⟩
  | alt es =>
    cases b
    · rw [E.ok, oks_eq] at h
      simp only [Bool.and_eq_true, decide_eq_true_eq, Bool.not_eq_true'] at h
      exact ⟨Nat.le_trans (by decide) h.1.1, h.1.2, h.2⟩
    · exact one _ h rfl
theorem ok_row {b : Bool} {es es' : List E} (h : KidsOk b es) (h' : KidsOk b es') : (rowE b (es ++ es')).ok = true := by
  have a := h.n
  have a' := h'.n
  cases b
  · show E.ok (.alt (es ++ es')) = true
    rw [E.ok, oks_eq, List.all_append, h.ok, h'.ok, List.any_append]
    have n1 : es.any isAlt = false := h.no
    have n2 : es'.any isAlt = false := h'.no
    rw [n1, n2, List.length_append, decide_eq_true (by omega)]
    rfl
  · show E.ok (.join (es ++ es')) = true
    rw [E.ok, oks_eq, List.all_append, h.ok, h'.ok, List.any_append]
    have n1 : es.any isJoin = false := h.no
    have n2 : es'.any isJoin = false := h'.no
    rw [n1, n2, List.length_append, decide_eq_true (by omega)]
    rfl
theorem ok_mkRow {b : Bool} {x y : E} (hx : x.ok = true) (hy : y.ok = true) : (mkRow b x y).ok = true := ok_row (kids_okB hx) (kids_okB hy)
theorem kids_places (b : Bool) (e : E) : ((kidsOf b e).map E.places).sum = e.places := by
  cases e <;> cases b <;> simp [kidsOf, E.places, placess_eq]
theorem kids_leaves (b : Bool) (e : E) : ((kidsOf b e).map E.leaves).sum = e.leaves := by
  cases e <;> cases b <;> simp [kidsOf, E.leaves, leavess_eq]
theorem kids_wr (b : Bool) (e : E) : ((kidsOf b e).map E.wr).sum = e.wr := by
  cases e <;> cases b <;> simp [kidsOf, E.wr, wrs_eq]
theorem mkRow_places (b : Bool) (x y : E) : (mkRow b x y).places = x.places + y.places := by
  have : (mkRow b x y).places = ((kidsOf b x ++ kidsOf b y).map E.places).sum := by cases b <;> simp [mkRow, rowE, E.places, placess_eq]
  rw [this, List.map_append, List.sum_append, kids_places, kids_places]
theorem mkRow_leaves (b : Bool) (x y : E) : (mkRow b x y).leaves = x.leaves + y.leaves := by
  have : (mkRow b x y).leaves = ((kidsOf b x ++ kidsOf b y).map E.leaves).sum := by cases b <;> simp [mkRow, rowE, E.leaves, leavess_eq]
  rw [this, List.map_append, List.sum_append, kids_leaves, kids_leaves]
theorem mkRow_wr (b : Bool) (x y : E) : (mkRow b x y).wr = x.wr + y.wr := by
  have : (mkRow b x y).wr = ((kidsOf b x ++ kidsOf b y).map E.wr).sum := by cases b <;> simp [mkRow, rowE, E.wr, wrs_eq]
  rw [this, List.map_append, List.sum_append, kids_wr, kids_wr]
def rowW (b : Bool) : Str := if b then sJoin else sOr
theorem rowE_toD (b : Bool) (es : List E) : (rowE b es).toD = .tup [.str (rowW b), .tup (es.map E.toD)] := by
  cases b
  · show E.toD (.alt es) = _
    rw [E.toD, toDs_eq]
    rfl
  · show E.toD (.join es) = _
    rw [E.toD, toDs_eq]
    rfl
end My
namespace My
open PySem PySem.Spec PyProof.Rows L2
/-! ### each expression has its least automaton -/
theorem row_ex {e : E} {S : List (List Nat)} {mv : Mv} {i : Nat} (B : Bfs e S mv i 0) (h : i < S.length) : ∃ S' mv', Bfs e S' mv' (i + 1) 0 := by
  have key : ∀ k, k ≤ 4 → ∃ S' mv', Bfs e S' mv' i k ∧ i < S'.length := by
    intro k
    induction k with
    | zero => exact fun _ => ⟨S, mv, B, h⟩
    | succ k ih =>
      intro hk
      obtain ⟨S', mv', B', h'⟩ := ih (by omega)
      have hs : S'[i]? = some S'[i] := List.getElem?_eq_getElem h'
      by_cases c : stS e S'[i] (97 + k) = []
      · exact ⟨S', mv', B'.skip (by omega) hs c, h'⟩
      · by_cases hm : stS e S'[i] (97 + k) ∈ S'
        · obtain ⟨t, ht⟩ := List.mem_iff_getElem?.mp hm
          exact ⟨S', _, B'.old (by omega) hs c ht, h'⟩
        · exact ⟨_, _, B'.new (by omega) hs c hm, by rw [List.length_append]; omega⟩
  obtain ⟨S', mv', B', h'⟩ := key 4 (Nat.le_refl _)
  exact ⟨S', mv', B'.row h'⟩
theorem bfs_ex (e : E) : ∃ S mv, Bfs e S mv S.length 0 := by
  have key : ∀ n i S mv, Bfs e S mv i 0 → 2 ^ e.places - i ≤ n → ∃ S mv, Bfs e S mv S.length 0 := by
    intro n
    induction n with
    | zero =>
      intro i S mv B hn
      have h1 := B.len
      have h2 := B.le
      have : i = S.length := by omega
      subst this
      exact ⟨S, mv, B⟩
    | succ n ih =>
      intro i S mv B hn
      have h1 := B.len
      have h2 := B.le
      by_cases h : i < S.length
      · obtain ⟨S', mv', B'⟩ := row_ex B h
        exact ih (i + 1) S' mv' B' (by omega)
      · have : i = S.length := by omega
        subst this
        exact ⟨S, mv, B⟩
  exact key _ 0 _ _ (Bfs.start e) (Nat.le_refl _)
theorem ref_ex {L : List Nat → Prop} {N : Nat} {acc : Nat → Bool} {mv : Mv} (A : IsPre L N acc mv) : ∃ a, Refn N acc mv a ∧ finer mv a = a := by
  have key : ∀ n a, Refn N acc mv a → sameP a ≤ n → ∃ a, Refn N acc mv a ∧ finer mv a = a := by
    intro n
    induction n with
    | zero =>
      intro a R hn
      by_cases h : finer mv a = a
      · exact ⟨a, R, h⟩
      · obtain ⟨R2, href⟩ := R.step A
        have := sameP_lt R.rg R2.rg (finer_len mv a).symm href h
        omega
    | succ n ih =>
      intro a R hn
      by_cases h : finer mv a = a
      · exact ⟨a, R, h⟩
      · obtain ⟨R2, href⟩ := R.step A
        have := sameP_lt R.rg R2.rg (finer_len mv a).symm href h
        exact ih _ R2 (by omega)
  exact key _ _ (Refn.start A) (Nat.le_refl _)
theorem aut_ex {e : E} (ho : e.ok = true) : ∃ N acc mv, IsAut (MW e) N acc mv ∧ N ≤ 2 ^ e.places := by
  obtain ⟨S, mv, B⟩ := bfs_ex e
  obtain ⟨a, R, h⟩ := ref_ex (B.pre ho)
  refine ⟨_, _, _, aut_of ho B R h, ?_⟩
  have h1 := cntR_le a
  have h2 := R.len
  have h3 := B.len
  omega
theorem IsAut.congr {L M : List Nat → Prop} {N : Nat} {acc : Nat → Bool} {mv : Mv} (h : ∀ w, L w ↔ M w) (A : IsAut L N acc mv) : IsAut M N acc mv :=
  ⟨⟨A.pos, A.bd, fun w => (h w).symm.trans (A.lang w), A.live, A.num⟩, A.apart⟩
theorem aut_bound {e e' : E} (ho : e'.ok = true) (h : ∀ w, MW e w ↔ MW e' w) {N : Nat} {acc : Nat → Bool} {mv : Mv} (A : IsAut (MW e) N acc mv) : N ≤ 2 ^ e'.places := by
  obtain ⟨N', acc', mv', A', hN⟩ := aut_ex ho
  rw [((A.congr h).uniq A').1]
  exact hN
theorem aut_bound5 {e : E} (ho : e.ok = true) (h : e.places ≤ 5) : ∀ (N : Nat) (acc : Nat → Bool) (mv : Mv), IsAut (MW e) N acc mv → N ≤ 40 := fun N acc mv A => by
  have h1 := aut_bound ho (fun w => Iff.rfl) A
  have h2 : 2 ^ e.places ≤ 2 ^ 5 := Nat.pow_le_pow_right (by decide) h
  omega
/-! ### words of rows -/
theorem mwJ_app : ∀ {xs ys : List E} {w : List Nat}, MW.mwJ (xs ++ ys) w ↔ ∃ us vs, w = us ++ vs ∧ MW.mwJ xs us ∧ MW.mwJ ys vs
  | [], ys, w => ⟨fun h => ⟨[], w, rfl, rfl, h⟩, fun ⟨us, vs, h1, h2, h3⟩ => by
    have h2 : us = [] := h2
    rw [h1, h2]
    exact h3⟩
  | x :: xs, ys, w => by
    constructor
    · rintro ⟨us, vs, h1, h2, h3⟩
      obtain ⟨us', vs', e1, e2, e3⟩ := mwJ_app.mp h3
      exact ⟨us ++ us', vs', by rw [h1, e1, List.append_assoc], ⟨us, us', rfl, h2, e2⟩, e3⟩
    · rintro ⟨us, vs, h1, ⟨us', vs', e1, e2, e3⟩, h3⟩
      exact ⟨us', vs' ++ vs, by rw [h1, e1, List.append_assoc], e2, mwJ_app.mpr ⟨vs', vs, rfl, e3, h3⟩⟩
theorem mwA_mem : ∀ {es : List E} {w : List Nat}, MW.mwA es w ↔ ∃ e ∈ es, MW e w
  | [], w => ⟨fun h => h.elim, fun ⟨e, h, _⟩ => by cases h⟩
  | x :: es, w => by
    have ih := mwA_mem (es := es) (w := w)
    show (MW x w ∨ MW.mwA es w) ↔ _
    rw [ih]
    constructor
    · rintro (h | ⟨e, h1, h2⟩)
      · exact ⟨x, List.mem_cons_self, h⟩
      · exact ⟨e, List.mem_cons_of_mem _ h1, h2⟩
    · rintro ⟨e, h1, h2⟩
      rcases List.mem_cons.mp h1 with rfl | h1
      · exact .inl h2
      · exact .inr ⟨e, h1, h2⟩
theorem star_app {α : Type} {L : List α → Prop} {u v : List α} (h : Star L u) (k : Star L v) : Star L (u ++ v) := by
  induction h with
  | nil => exact k
  | cons h n _ ih =>
    rw [List.append_assoc]
    exact .cons h n ih
theorem star_one {α : Type} {L : List α → Prop} {u : List α} (h : L u) : Star L u := by
  by_cases c : u = []
  · rw [c]
    exact .nil
  · have := Star.cons h c Star.nil
    rw [List.append_nil] at this
    exact this
theorem star_star {α : Type} {L M : List α → Prop} (h1 : ∀ u, M u → Star L u) (h2 : ∀ u, L u → Star M u) (w : List α) : Star M w ↔ Star L w := by
  have key : ∀ {A B : List α → Prop}, (∀ u, A u → Star B u) → ∀ w, Star A w → Star B w := fun h w hw => by
    induction hw with
    | nil => exact .nil
    | cons a _ _ ih => exact star_app (h _ a) ih
  exact ⟨key h1 w, key h2 w⟩
theorem star_congr {α : Type} {L M : List α → Prop} (h : ∀ u, L u ↔ M u) (w : List α) : Star L w ↔ Star M w := ⟨Star.mono fun u => (h u).mp, Star.mono fun u => (h u).mpr⟩
theorem mwJ_kids {e : E} {w : List Nat} : MW.mwJ (kidsOf true e) w ↔ MW e w := by
  have one : ∀ e : E, MW.mwJ [e] w ↔ MW e w := fun e => by
    show (∃ us vs, w = us ++ vs ∧ MW e us ∧ vs = []) ↔ _
    constructor
    · rintro ⟨us, vs, h1, h2, rfl⟩
      rw [h1, List.append_nil]
      exact h2
    · exact fun h => ⟨w, [], by rw [List.append_nil], h, rfl⟩
  cases e with
  | join es => exact Iff.rfl
  | _ => exact one _
theorem mwA_kids {e : E} {w : List Nat} : MW.mwA (kidsOf false e) w ↔ MW e w := by
  have one : ∀ e : E, MW.mwA [e] w ↔ MW e w := fun e => by
    show (MW e w ∨ False) ↔ _
    exact ⟨fun h => h.elim id False.elim, .inl⟩
  cases e with
  | alt es => exact Iff.rfl
  | _ => exact one _
theorem mw_rowT {x y : E} {w : List Nat} : MW (mkRow true x y) w ↔ ∃ us vs, w = us ++ vs ∧ MW x us ∧ MW y vs := by
  show MW.mwJ (kidsOf true x ++ kidsOf true y) w ↔ _
  rw [mwJ_app]
  constructor
  · rintro ⟨us, vs, h1, h2, h3⟩
    exact ⟨us, vs, h1, mwJ_kids.mp h2, mwJ_kids.mp h3⟩
  · rintro ⟨us, vs, h1, h2, h3⟩
    exact ⟨us, vs, h1, mwJ_kids.mpr h2, mwJ_kids.mpr h3⟩
theorem mwA_app {xs ys : List E} {w : List Nat} : MW.mwA (xs ++ ys) w ↔ MW.mwA xs w ∨ MW.mwA ys w := by
  rw [mwA_mem, mwA_mem, mwA_mem]
  constructor
  · rintro ⟨e, h1, h2⟩
    rcases List.mem_append.mp h1 with h | h
    · exact .inl ⟨e, h, h2⟩
    · exact .inr ⟨e, h, h2⟩
  · rintro (⟨e, h1, h2⟩ | ⟨e, h1, h2⟩)
    · exact ⟨e, List.mem_append_left _ h1, h2⟩
    · exact ⟨e, List.mem_append_right _ h1, h2⟩
theorem mw_rowF {x y : E} {w : List Nat} : MW (mkRow false x y) w ↔ MW x w ∨ MW y w := by
  show MW.mwA (kidsOf false x ++ kidsOf false y) w ↔ _
  rw [mwA_app, mwA_kids, mwA_kids]
theorem mw_epsL {e : E} (w : List Nat) : MW (mkRow true .eps e) w ↔ MW e w := by
  rw [mw_rowT]
  constructor
  · rintro ⟨us, vs, h1, h2, h3⟩
    have h2 : us = [] := h2
    rw [h1, h2]
    exact h3
  · exact fun h => ⟨[], w, rfl, rfl, h⟩
theorem mw_epsR {e : E} (w : List Nat) : MW (mkRow true e .eps) w ↔ MW e w := by
  rw [mw_rowT]
  constructor
  · rintro ⟨us, vs, h1, h2, h3⟩
    have h3 : vs = [] := h3
    rw [h1, h3, List.append_nil]
    exact h2
  · exact fun h => ⟨w, [], by rw [List.append_nil], h, rfl⟩
theorem mw_self {e : E} (w : List Nat) : MW (mkRow false e e) w ↔ MW e w := by
  rw [mw_rowF]
  exact or_self_iff
theorem mw_rev {es : List E} (w : List Nat) : MW (.alt es.reverse) w ↔ MW (.alt es) w := by
  show MW.mwA es.reverse w ↔ MW.mwA es w
  rw [mwA_mem, mwA_mem]
  exact ⟨fun ⟨e, h1, h2⟩ => ⟨e, List.mem_reverse.mp h1, h2⟩, fun ⟨e, h1, h2⟩ => ⟨e, List.mem_reverse.mpr h1, h2⟩⟩
theorem mw_many2 {e : E} (w : List Nat) : MW (.many (.many e)) w ↔ MW (.many e) w :=
  star_star (fun u h => h) (fun u h => star_one (star_one h)) w
theorem mw_manyM {e : E} (w : List Nat) : MW (.many (.maybe e)) w ↔ MW (.many e) w :=
  star_star (fun u h => h.elim (fun h => by rw [h]; exact .nil) star_one) (fun u h => star_one (.inr h)) w
theorem mw_maybeM {e : E} (w : List Nat) : MW (.maybe (.many e)) w ↔ MW (.many e) w :=
  ⟨fun h => h.elim (fun h => by rw [h]; exact .nil) id, .inr⟩
theorem mw_orM {e : E} (w : List Nat) : MW (mkRow false .eps (.many e)) w ↔ MW (.many e) w := by
  rw [mw_rowF]
  exact ⟨fun h => h.elim (fun h => by rw [show w = [] from h]; exact .nil) id, .inr⟩
end My
namespace My
open PySem PySem.Spec PyProof.Rows L2
/-! ### automata as data -/
def rowM (mv : Mv) (q : Nat) (cs : List Nat) : List (Nat × Nat × Nat) := cs.filterMap fun c => (mv q c).map fun t => (q, c, t)
def mvsL (N : Nat) (mv : Mv) : List (Nat × Nat × Nat) := (List.range N).flatMap fun q => rowM mv q lets4
theorem mem_mvsL {N : Nat} {mv : Mv} {q c t : Nat} : (q, c, t) ∈ mvsL N mv ↔ q < N ∧ c ∈ lets4 ∧ mv q c = some t := by
  unfold mvsL rowM
  rw [List.mem_flatMap]
  constructor
  · rintro ⟨p, h1, h2⟩
    obtain ⟨d, hd, h3⟩ := List.mem_filterMap.mp h2
    obtain ⟨s, h4, h5⟩ := Option.map_eq_some_iff.mp h3
    injection h5 with e1 e2
    injection e2 with e2 e3
    subst e1 e2 e3
    exact ⟨List.mem_range.mp h1, hd, h4⟩
  · rintro ⟨h1, h2, h3⟩
    exact ⟨q, List.mem_range.mpr h1, List.mem_filterMap.mpr ⟨c, h2, by rw [h3]; rfl⟩⟩
def mvJ (m : Nat × Nat × Nat) : J := .tup [.int (m.1 : Nat), .str ⟨#[m.2.1]⟩, .int (m.2.2 : Nat)]
def autJ (N : Nat) (acc : Nat → Bool) (mv : Mv) : J := .tup [.tup ((List.range N).map fun i => .bl (acc i)), .tup ((mvsL N mv).map mvJ)]
def amD (m : Nat × Nat × Nat) : PyData := .tuple [.int (m.1 : Nat), .str ⟨#[m.2.1]⟩, .int (m.2.2 : Nat)]
def autD (N : Nat) (acc : Nat → Bool) (mv : Mv) : PyData := .tuple [.tuple (((List.range N).map acc).map PyData.bool), .tuple ((mvsL N mv).map amD)]
theorem mvsL_congr {N : Nat} {mv mv' : Mv} (h : ∀ q c, mv q c = mv' q c) : mvsL N mv = mvsL N mv' := by
  have : mv = mv' := by funext q c; exact h q c
  rw [this]
theorem autJ_same {L : List Nat → Prop} {N N' : Nat} {acc acc' : Nat → Bool} {mv mv' : Mv} (A : IsAut L N acc mv) (A' : IsAut L N' acc' mv') : autJ N acc mv = autJ N' acc' mv' := by
  obtain ⟨h1, h2, h3⟩ := A.uniq A'
  subst h1
  unfold autJ
  rw [mvsL_congr h3, List.map_congr_left fun i hi => by rw [h2 i (List.mem_range.mp hi)]]
theorem eqvAll_map {α : Type} [DecidableEq α] {f : α → PyData} (h : ∀ x y, PyData.eqv (f x) (f y) = decide (x = y)) : ∀ a b : List α, PyData.eqvAll (a.map f) (b.map f) = decide (a = b)
  | [], [] => by simp [PyData.eqvAll]
  | [], y :: b => by simp [PyData.eqvAll]
  | x :: a, [] => by simp [PyData.eqvAll]
  | x :: a, y :: b => by
    rw [List.map_cons, List.map_cons, PyData.eqvAll, h, eqvAll_map h a b, Bool.eq_iff_iff]
    simp
theorem bl_eqv (a b : Bool) : PyData.eqv (.bool a) (.bool b) = decide (a = b) := by cases a <;> cases b <;> rfl
theorem amD_eqv (x y : Nat × Nat × Nat) : PyData.eqv (amD x) (amD y) = decide (x = y) := by
  obtain ⟨a, b, c⟩ := x
  obtain ⟨d, e, f⟩ := y
  unfold amD
  simp only [PyData.eqv, PyData.eqvAll, Bool.and_true]
  rw [Bool.eq_iff_iff]
  simp only [Bool.and_eq_true, beq_iff_eq, decide_eq_true_eq, Prod.mk.injEq]
  constructor
  · rintro ⟨h1, h2, h3⟩
    have e2 := congrArg (fun s : Str => s.cps.toList) h2
    exact ⟨by omega, (List.cons.inj e2).1, by omega⟩
  · rintro ⟨rfl, rfl, rfl⟩
    exact ⟨rfl, rfl, rfl⟩
theorem autD_eqv (N N' : Nat) (acc acc' : Nat → Bool) (mv mv' : Mv) : PyData.eqv (autD N acc mv) (autD N' acc' mv') = decide ((List.range N).map acc = (List.range N').map acc' ∧ mvsL N mv = mvsL N' mv') := by
  unfold autD
  have e1 : PyData.eqv (.tuple (((List.range N).map acc).map PyData.bool)) (.tuple (((List.range N').map acc').map PyData.bool)) = decide ((List.range N).map acc = (List.range N').map acc') := by
    rw [← eqvAll_map bl_eqv]
    simp only [PyData.eqv]
  have e2 : PyData.eqv (.tuple ((mvsL N mv).map amD)) (.tuple ((mvsL N' mv').map amD)) = decide (mvsL N mv = mvsL N' mv') := by
    rw [← eqvAll_map amD_eqv]
    simp only [PyData.eqv]
  rw [PyData.eqv, PyData.eqvAll, PyData.eqvAll, PyData.eqvAll, e1, e2, Bool.and_true, Bool.decide_and]
theorem aut_eqv {L M : List Nat → Prop} {N N' : Nat} {acc acc' : Nat → Bool} {mv mv' : Mv} (A : IsAut L N acc mv) (A' : IsAut M N' acc' mv') : PyData.eqv (autD N acc mv) (autD N' acc' mv') = true ↔ ∀ w, L w ↔ M w := by
  rw [autD_eqv, decide_eq_true_eq]
  constructor
  · rintro ⟨h1, h2⟩ w
    have hN : N = N' := by
      have := congrArg List.length h1
      rwa [List.length_map, List.length_map, List.length_range, List.length_range] at this
    subst hN
    have ha : ∀ i, i < N → acc i = acc' i := fun i hi => by
      have := congrArg (fun l => l[i]?) h1
      simp only [List.getElem?_map, List.getElem?_range hi, Option.map_some] at this
      exact Option.some.inj this
    have hm : ∀ q c, mv q c = mv' q c := fun q c => by
      have key : ∀ {mv mv' : Mv} {L' : List Nat → Prop} {acc : Nat → Bool}, IsAut L' N acc mv → mvsL N mv = mvsL N mv' → ∀ t, mv q c = some t → mv' q c = some t := fun {mv mv' L' acc} A h t ht => by
        obtain ⟨b1, b2, b3, b4⟩ := A.bd _ _ _ ht
        have hc : c ∈ lets4 := by
          have : c = 97 ∨ c = 98 ∨ c = 99 ∨ c = 100 := by omega
          rcases this with rfl | rfl | rfl | rfl <;> decide
        have := mem_mvsL.mpr ⟨b1, hc, ht⟩
        rw [h] at this
        exact (mem_mvsL.mp this).2.2
      cases h1 : mv q c with
      | some t => exact (key A h2 t h1).symm
      | none =>
        cases h3 : mv' q c with
        | none => rfl
        | some t =>
          rw [key A' h2.symm t h3] at h1
          cases h1
    have hmm : mv = mv' := by funext q c; exact hm q c
    subst hmm
    rw [A.lang, A'.lang]
    unfold accM
    constructor
    · rintro ⟨t, k1, k2⟩
      exact ⟨t, k1, by rw [← ha t (runM_bd A.toIsPre w A.pos k1)]; exact k2⟩
    · rintro ⟨t, k1, k2⟩
      exact ⟨t, k1, by rw [ha t (runM_bd A.toIsPre w A.pos k1)]; exact k2⟩
  · intro h
    obtain ⟨h1, h2, h3⟩ := (A.congr h).uniq A'
    subst h1
    exact ⟨List.map_congr_left fun i hi => h2 i (List.mem_range.mp hi), mvsL_congr h3⟩
theorem bools_lay : ∀ l : List Bool, PyData.canLayAll0 (l.map PyData.bool) = true ∧ PyData.depthAll (l.map PyData.bool) = 0
  | [] => ⟨rfl, rfl⟩
  | b :: l => by
    obtain ⟨h1, h2⟩ := bools_lay l
    rw [List.map_cons, PyData.canLayAll0, PyData.depthAll, h1, h2]
    exact ⟨rfl, rfl⟩
theorem ams_lay : ∀ l : List (Nat × Nat × Nat), (∀ m ∈ l, m.2.1 ∈ lets4) → PyData.canLayAll0 (l.map amD) = true ∧ PyData.depthAll (l.map amD) ≤ 1
  | [], _ => ⟨rfl, Nat.zero_le _⟩
  | b :: l, hl => by
    obtain ⟨h1, h2⟩ := ams_lay l fun m hm => hl m (List.mem_cons_of_mem _ hm)
    have hb : PyData.canLay0 (amD b) = true := by
      have := hl b (List.mem_cons_self ..)
      obtain ⟨q, c, t⟩ := b
      have : c = 97 ∨ c = 98 ∨ c = 99 ∨ c = 100 := by simpa [lets4] using this
      unfold amD
      rcases this with rfl | rfl | rfl | rfl <;> (simp only [PyData.canLay0, PyData.canLayAll0, Bool.and_true, Bool.true_and]; decide +kernel)
    rw [List.map_cons, PyData.canLayAll0, PyData.depthAll, h1, hb]
    exact ⟨rfl, Nat.max_le.mpr ⟨by unfold amD; simp [PyData.depth, PyData.depthAll], h2⟩⟩
theorem autD_shaped (N : Nat) (acc : Nat → Bool) (mv : Mv) : SeqAt.shaped (autD N acc mv) = true := by
  obtain ⟨h1, h2⟩ := bools_lay ((List.range N).map acc)
  obtain ⟨h3, h4⟩ := ams_lay (mvsL N mv) fun m hm => (mem_mvsL (q := m.1) (c := m.2.1) (t := m.2.2).mp hm).2.1
  have hl : PyData.canLay0 (autD N acc mv) = true := by
    unfold autD
    simp only [PyData.canLay0, PyData.canLayAll0, h1, h3, Bool.and_true]
  have hd : PyData.depth (autD N acc mv) ≤ 3 := by
    unfold autD
    simp only [PyData.depth, PyData.depthAll, h2]
    omega
  show (PyData.canLay0 (autD N acc mv) && decide (PyData.depth (autD N acc mv) ≤ 64)) = true
  rw [hl, decide_eq_true (by omega)]
  rfl
/-! ### sizes of what is made of expressions -/
mutual
theorem leaves_le : ∀ e : E, e.leaves ≤ e.parts
  | .eps => by rw [E.leaves, E.parts]; omega
  | .sym c => by rw [E.leaves, E.parts]; omega
  | .maybe e => by have := leaves_le e; rw [E.leaves, E.parts]; omega
  | .many e => by have := leaves_le e; rw [E.leaves, E.parts]; omega
  | .join es => by have := leavess_le es; rw [E.leaves, E.parts]; omega
  | .alt es => by have := leavess_le es; rw [E.leaves, E.parts]; omega
theorem leavess_le : ∀ es : List E, E.leaves.leavess es ≤ E.parts.partss es
  | [] => Nat.le_refl _
  | e :: es => by
    have h1 := leaves_le e
    have h2 := leavess_le es
    rw [E.leaves.leavess, E.parts.partss]
    omega
end
theorem depths_le2 {d : Nat} : ∀ {es : List E}, (∀ x ∈ es, x.depth ≤ d) → E.depth.depths es ≤ d
  | [], _ => Nat.zero_le _
  | e :: es, h => by
    rw [E.depth.depths]
    have h1 := h e (List.mem_cons_self ..)
    have h2 := depths_le2 (es := es) fun x hx => h x (List.mem_cons_of_mem _ hx)
    omega
theorem le_depths {e : E} : ∀ {es : List E}, e ∈ es → e.depth ≤ E.depth.depths es
  | x :: es, h => by
    rw [E.depth.depths]
    rcases List.mem_cons.mp h with rfl | h
    · omega
    · have := le_depths h
      omega
theorem kids_dep {b : Bool} {e k : E} (h : k ∈ kidsOf b e) : k.depth ≤ e.depth := by
  have one : k ∈ [e] → k.depth ≤ e.depth := fun h => by rw [List.mem_singleton.mp h]; exact Nat.le_refl _
  cases e with
  | join es =>
    cases b
    · exact one h
    · have := le_depths (show k ∈ es from h)
      rw [E.depth]
      omega
  | alt es =>
    cases b
    · have := le_depths (show k ∈ es from h)
      rw [E.depth]
      omega
    · exact one h
  | _ => exact one h
theorem mkRow_dep (b : Bool) (x y : E) : (mkRow b x y).depth ≤ max x.depth y.depth + 1 := by
  have h : ∀ es : List E, (rowE b es).depth = E.depth.depths es + 1 := fun es => by
    cases b
    · show E.depth (.alt es) = _
      rw [E.depth]
    · show E.depth (.join es) = _
      rw [E.depth]
  unfold mkRow
  rw [h]
  refine Nat.succ_le_succ (depths_le2 fun k hk => ?_)
  rcases List.mem_append.mp hk with hk | hk
  · have := kids_dep hk
    omega
  · have := kids_dep hk
    omega
theorem kids_parts (b : Bool) (e : E) : ((kidsOf b e).map E.parts).sum ≤ e.parts := by
  cases e <;> cases b <;> simp [kidsOf, E.parts, partss_eq]
theorem mkRow_parts (b : Bool) (x y : E) : (mkRow b x y).parts ≤ x.parts + y.parts + 1 := by
  have h : ∀ es : List E, (rowE b es).parts = (es.map E.parts).sum + 1 := fun es => by
    cases b
    · show E.parts (.alt es) = _
      rw [E.parts, partss_eq]
    · show E.parts (.join es) = _
      rw [E.parts, partss_eq]
  unfold mkRow
  rw [h, List.map_append, List.sum_append]
  have := kids_parts b x
  have := kids_parts b y
  omega
end My
namespace My
open PySem PySem.Spec PyProof.Rows L2
/-! ### draws that also write down which letters were used -/
structure GoU (a : Addr) (uV : V) (H H' : Hp) : Prop where
  keep : ∀ b o, H b = some o → b ≠ a → uV ≠ .ref b → H' b = some o
  st0 : Strm H a
  mv : ∀ l c k ns, StrmW H a l c k ns → ∃ c' k' ns', StrmW H' a l c' k' ns'
  pers : Pers H H'
theorem GoU.st {a : Addr} {uV : V} {H H' : Hp} (g : GoU a uV H H') : Strm H' a := by
  obtain ⟨l, c, k, ns, h⟩ := g.st0
  obtain ⟨c', k', ns', h'⟩ := g.mv l c k ns h
  exact ⟨l, c', k', ns', h'⟩
theorem Go.toU {a : Addr} {uV : V} {H H' : Hp} (g : Go a H H') : GoU a uV H H' := ⟨fun b o hb hn _ => g.keep b o hb hn, g.st0, g.mv, g.pers⟩
theorem GoU.trans {a : Addr} {uV : V} {H H1 H2 : Hp} (x : GoU a uV H H1) (y : GoU a uV H1 H2) : GoU a uV H H2 := ⟨fun b o hb hn hu => y.keep b o (x.keep b o hb hn hu) hn hu, x.st0, fun l c k ns h => by
  obtain ⟨c', k', ns', h'⟩ := x.mv l c k ns h
  exact y.mv l c' k' ns' h', x.pers.trans y.pers⟩
theorem GoU.loc {a p : Addr} {uV : V} {H H' : Hp} {o : HO} (g : GoU a uV H H') (n : H p = none) : GoU a uV H (upd H' p o) := ⟨fun b u hb hn hu => by
  rw [upd_ne (ne_of_none hb n)]
  exact g.keep b u hb hn hu, g.st0, fun l c k ns h => by
  obtain ⟨c', k', ns', h1, h2, h3, h4⟩ := g.mv l c k ns h
  exact ⟨c', k', ns', by rw [upd_ne (ne_of_none h.1 n)]; exact h1, by rw [upd_ne (ne_of_none h.2.1 n)]; exact h2, h3, h4⟩, ⟨fun b xs hb => by rw [upd_ne (ne_of_none hb n)]; exact g.pers.tup b xs hb, fun b xs hb => by rw [upd_ne (ne_of_none hb n)]; exact g.pers.lst b xs hb⟩⟩
/-- nothing is written down, or the first k letters are -/
structure UsedAt (H : Hp) (a : Addr) (uV : V) (k : Nat) : Prop where
  ex : uV = .non ∨ ∃ U, uV = .ref U ∧ U ≠ a ∧ (∀ l c j ns, StrmW H a l c j ns → l ≠ U) ∧ H U = some (.lst ((List.range k).map fun i => V.str ⟨#[97 + i]⟩))
theorem strmW_l {H : Hp} {a l l' : Addr} {c k c' k' : Int} {ns ns' : List Int} (h : StrmW H a l c k ns) (h' : StrmW H a l' c' k' ns') : l = l' := by
  have e := h.1.symm.trans h'.1
  have e := HO.lst.inj (Option.some.inj e)
  exact V.ref.inj (List.cons.inj e).1
theorem UsedAt.go {H H' : Hp} {a : Addr} {uV : V} {k : Nat} (h : UsedAt H a uV k) (g : Go a H H') : UsedAt H' a uV k := by
  rcases h.ex with rfl | ⟨U, rfl, h1, h2, h3⟩
  · exact ⟨.inl rfl⟩
  · refine ⟨.inr ⟨U, rfl, h1, fun l c j ns w => ?_, g.keep _ _ h3 h1⟩⟩
    obtain ⟨l0, c0, k0, n0, w0⟩ := g.st0
    obtain ⟨c1, k1, n1, w1⟩ := g.mv _ _ _ _ w0
    rw [strmW_l w w1]
    exact h2 _ _ _ _ w0
theorem UsedAt.put {H : Hp} {a U : Addr} {k : Nat} (st : Strm H a) (h : UsedAt H a (.ref U) k) : GoU a (.ref U) H (upd H U (.lst ((List.range (k + 1)).map fun i => V.str ⟨#[97 + i]⟩))) ∧ UsedAt (upd H U (.lst ((List.range (k + 1)).map fun i => V.str ⟨#[97 + i]⟩))) a (.ref U) (k + 1) := by
  obtain ⟨U', e, h1, h2, h3⟩ := h.ex.resolve_left fun z => by cases z
  obtain rfl := V.ref.inj e
  have wk : ∀ l c j ns, StrmW H a l c j ns → StrmW (upd H U (.lst ((List.range (k + 1)).map fun i => V.str ⟨#[97 + i]⟩))) a l c j ns := fun l c j ns w => ⟨by rw [upd_ne h1.symm]; exact w.1, by rw [upd_ne (h2 _ _ _ _ w)]; exact w.2.1, w.2.2⟩
  refine ⟨⟨fun b o hb _ hu => by rw [upd_ne fun e => hu (by rw [e])]; exact hb, st, fun l c j ns w => ⟨c, j, ns, wk l c j ns w⟩, Pers.store h3⟩, ⟨.inr ⟨U, rfl, h1, fun l c j ns w => ?_, upd_same⟩⟩⟩
  obtain ⟨l0, c0, k0, n0, w0⟩ := st
  rw [strmW_l w (wk _ _ _ _ w0)]
  exact h2 _ _ _ _ w0
/-- what is new in H is as it was -/
theorem GoU.new {a p : Addr} {uV : V} {H H' : Hp} {o : HO} (g : GoU a uV H H') (n : H' p = none) : GoU a uV H (upd H' p o) := g.trans (Go.new g.st n).toU
theorem UsedAt.same {H H' : Hp} {a : Addr} {uV : V} {k : Nat} (st : Strm H a) (h : UsedAt H a uV k) (s : Same H H') : UsedAt H' a uV k := h.go (Go.same st s)
/-- a store to what is new and not the letters -/
theorem UsedAt.loc {H : Hp} {a p : Addr} {uV : V} {k : Nat} {o : HO} (h : UsedAt H a uV k) (st : Strm H a) (h1 : p ≠ a) (h2 : uV ≠ .ref p) (h3 : ∀ l c j ns, StrmW H a l c j ns → l ≠ p) : UsedAt (upd H p o) a uV k := by
  rcases h.ex with rfl | ⟨U, rfl, g1, g2, g3⟩
  · exact ⟨.inl rfl⟩
  · refine ⟨.inr ⟨U, rfl, g1, fun l c j ns w => ?_, by rw [upd_ne fun e => h2 (by rw [e])]; exact g3⟩⟩
    obtain ⟨l0, c0, k0, n0, w0⟩ := st
    have w1 : StrmW (upd H p o) a l0 c0 k0 n0 := ⟨by rw [upd_ne h1.symm]; exact w0.1, by rw [upd_ne (h3 _ _ _ _ w0)]; exact w0.2.1, w0.2.2⟩
    rw [strmW_l w w1]
    exact g2 _ _ _ _ w0
end My
namespace My
open PySem PySem.Spec PyProof.Rows L2
/-! ### how often a text stands in a list of texts -/
def eqs (k : Str) (v : Value) : Bool := match v with
  | .str n _ => n.cps.toList == k.cps.toList
  | _ => false
theorem eqs_gives {k : Str} {t : Tok} : ∀ {zs : List Str} {us : List Value}, Vals (zs.map V.str) us → ∀ y ∈ us, MeetsSeq.EqGives y (.str k t) (eqs k y)
  | [], _, h => by
    cases h
    intro y hy
    cases hy
  | z :: zs, _, h => by
    cases h with
    | cons r h =>
      obtain ⟨t', rfl⟩ := r
      intro y hy
      rcases List.mem_cons.mp hy with e | e
      · rw [e]
        exact SeqRoads2.EqGives.str z k t' t
      · exact eqs_gives h y e
theorem eqs_count {k : Str} : ∀ {zs : List Str} {us : List Value}, Vals (zs.map V.str) us → us.countP (eqs k) = zs.countP fun z => z.cps.toList == k.cps.toList
  | [], _, h => by
    cases h
    rfl
  | z :: zs, _, h => by
    cases h with
    | cons r h =>
      obtain ⟨t', rfl⟩ := r
      have ih := eqs_count (k := k) h
      rw [List.countP_cons, List.countP_cons, ih]
      rfl
def rCntS (K : PySem.W.Frag) : V → List V → Hp → VK → Prop := fun x xs H Q => ∃ (p : Addr) (zs : List Str) (k : Str), x = .ref p ∧ xs = [.str k] ∧ SqL K H p (zs.map V.str) ∧ Q (.int ((zs.countP fun z => z.cps.toList == k.cps.toList) : Nat)) H
theorem mt_lcountS {X : Cx} : MtR X "list.count" (rCntS X.K) := by
  intro pins s σ H x xs v us Q I rx rxs h
  obtain ⟨p, zs, k, rfl, rfl, hs, q⟩ := h
  cases rx
  obtain ⟨u, rfl, ru⟩ := rxs.one
  obtain ⟨t, rfl⟩ := ru
  obtain ⟨its, rv, ⟨⟨cls, dd, data, sl⟩, n, ho, hc, hdn, hd⟩, hlen⟩ := I.list hs
  simp only at hc hd
  subst hc hd
  refine call_meets PySem.F.slot_list_count ⟨_, ho, rfl⟩ PySem.F.entry_list_count (PySem.F.args_list_count_2 _ _)
    (SeqAt.list_countAt p its.toArray n dd sl (.str k t) (eqs k)) ⟨ho, fun y hy => (eqs_gives rv y (by simpa using hy)).at _ _, ?_⟩
  have ec : its.toArray.toList.countP (eqs k) = zs.countP fun z => z.cps.toList == k.cps.toList := eqs_count rv
  refine ⟨.int ((zs.countP fun z => z.cps.toList == k.cps.toList) : Nat), H, I.tok _, ⟨s.toks, ?_⟩, q⟩
  show Value.int ((its.toArray.toList.countP (eqs k) : Nat) : Int) s.toks = Value.int (((zs.countP fun z => z.cps.toList == k.cps.toList) : Nat) : Int) s.toks
  rw [ec]
theorem mt_lcountB {X : Cx} {K : PySem.W.Frag} (hK : X.K = K) : MtR X "list.count" (rCntS K) := by
  subst hK
  exact mt_lcountS
end My
namespace My
open PySem PySem.Spec PyProof.Rows L2
/-! ### a tuple or a text, from its end: x[::-1] -/
section
variable {prog : Program} {w : World} {A : Around} {E : Value → Shared → Prop} {s : Shared}
theorem rv_adjust (n : Nat) : Builtin.Slice.sliceAdjust none none (-1) (n : Int) = ((n : Int) - 1, -1) := rfl
theorem rv_places (n : Nat) : Builtin.Slice.slicePlaces ((n : Int) - 1) (-1) (-1) = n := by
  unfold Builtin.Slice.slicePlaces
  have no : ¬ ((-1 : Int) > 0) := by omega
  have one : (- -1 : Int) = 1 := rfl
  rw [if_neg no, one, Int.ediv_one]
  split <;> omega
theorem fm_congr {α β : Type} {f g : α → Option β} : ∀ (l : List α), (∀ m ∈ l, f m = g m) → l.filterMap f = l.filterMap g
  | [], _ => rfl
  | m :: l, h => by
    have h1 := h m (List.mem_cons_self ..)
    have h2 := fm_congr l fun x hx => h x (List.mem_cons_of_mem _ hx)
    rw [List.filterMap_cons, List.filterMap_cons, h1, h2]
theorem rv_pick (xs : Array Value) : ((List.range xs.size).filterMap fun (m : Nat) => xs[(((xs.size : Int) - 1) + (m : Int) * -1).toNat]?).toArray = xs.toList.reverse.toArray := by
  have e1 : ((List.range xs.size).filterMap fun (m : Nat) => xs[(((xs.size : Int) - 1) + (m : Int) * -1).toNat]?) = ((List.range xs.size).map fun m => xs.size - 1 - m).filterMap (xs[·]?) := by
    rw [List.filterMap_map]
    refine fm_congr _ fun m hm => ?_
    have lt := List.mem_range.mp hm
    have e2 : (((xs.size : Int) - 1) + (m : Int) * -1).toNat = xs.size - 1 - m := by omega
    rw [e2]
    rfl
  rw [e1, PySem.W.krv_range, List.filterMap_reverse, PySem.W.krv_all]
theorem rv_applied {sl : Addr} {step : Value} {n : Nat} {Q : Int × Int × Nat → Shared → Prop} (isS : s.heap.IsSliceOf sl .none .none step) (pS : IsPart step (some (-1))) (fin : Q ((n : Int) - 1, -1, n) s) : wpAny (model prog w) A (Builtin.Slice.sliceApplied (.ref sl) (pure (n : Int))) Q E s := by
  obtain ⟨ob, ob1, ob2, ob3⟩ := id isS
  unfold Builtin.Slice.sliceApplied Builtin.Slice.sliceFields
  refine wpAny_bind (wpAny_bind (wpAny_field ob1 ob3 (x := .none) rfl ?_))
  refine wpAny_bind (wpAny_field ob1 ob3 (x := .none) rfl ?_)
  refine wpAny_bind (wpAny_field ob1 ob3 (x := step) rfl ?_)
  refine wpAny_pure (wpAny_bind (HT.slicePart_ pS ?_))
  show wpAny _ _ (if ((-1 : Int) == 0) = true then _ else _) _ _ s
  rw [if_neg (by decide)]
  refine wpAny_bind (HT.slicePart_ IsPart.none ?_)
  refine wpAny_bind (HT.slicePart_ IsPart.none ?_)
  refine wpAny_bind (wpAny_pure ?_)
  show wpAny _ _ (pure ((n : Int) - 1, (-1 : Int), Builtin.Slice.slicePlaces ((n : Int) - 1) (-1) (-1))) _ _ s
  rw [rv_places]
  exact wpAny_pure fin
theorem rv_tuple {t sl : Addr} {xs : Array Value} {step : Value} {Q : Value → Shared → Prop} (isT : IsTup s.heap t xs) (isS : s.heap.IsSliceOf sl .none .none step) (pS : IsPart step (some (-1))) (sz : xs.size ≤ sizeLine)
    (fin : Q (.ref s.heap.objs.size) { s with heap := s.heap.push { cls := .type "tuple", data := .seq xs.toList.reverse.toArray } }) : wpAny (model prog w) A (getItem (.ref t) (.ref sl)) Q E s := by
  have fits : sizeOk (.seq xs.toList.reverse.toArray) := by
    show xs.toList.reverse.toArray.size ≤ sizeLine
    rw [List.size_toArray, List.length_reverse]
    exact sz
  obtain ⟨ob, ob1, ob2, ob3⟩ := id isS
  have tyS : s.TypeIs (.ref sl) "slice" := ⟨ob, ob1, ob2⟩
  unfold getItem
  try with_reducible apply wpAny_holding
  try apply wpAny_bind (wpAny_pure _)
  refine wpAny_bind (wpAny_sequenceKey isT.typeIs (by decide) ?_)
  refine wpAny_bind (wpAny_callSpecial?_slot (name := Str.ofString "__getitem__") isT.typeIs PyProof.Rows.slot_tuple_getitem (wpAny_call_entry PyProof.Rows.slot_tuple_getitem isT.typeIs entry_tuple_getitem ?_ (args_tuple_getitem _ _)))
  show wpAny _ _ (Builtin.Tuple.tupleItemsOf (.ref t) >>= _) _ _ _
  refine wpAny_bind (tupleItemsOf_ isT ?_)
  refine wpAny_bind (wpAny_typeOf tyS ?_)
  rw [if_pos (by decide)]
  refine wpAny_bind (rv_applied isS pS ?_)
  have no : ¬ ((((xs.size : Int) - 1 == 0) && ((-1 : Int) == 1) && (xs.size == xs.size)) = true) := by
    intro c
    rw [Bool.and_eq_true, Bool.and_eq_true] at c
    exact absurd c.1.2 (by decide)
  show wpAny _ _ (if ((((xs.size : Int) - 1 == 0) && ((-1 : Int) == 1) && (xs.size == xs.size)) = true) then _ else _) _ _ _
  rw [if_neg no, rv_pick]
  first
    | exact wpAny_bind (m := Builtin.Tuple.tupleExact _) (wpAny_newObj_type (wpAny_pure ⟨_, rfl, wpAny_pure fin⟩) fits)
    | exact wpAny_bind (m := Builtin.Tuple.tupleExact _) (wpAny_newObj_type (wpAny_bind (wpAny_pure (wpAny_pure ⟨_, rfl, wpAny_pure fin⟩))) fits)
    | exact wpAny_bind (wpAny_bind (m := Builtin.Tuple.tupleExact _) (wpAny_newObj_type (wpAny_pure (wpAny_pure ⟨_, rfl, wpAny_pure fin⟩)) fits))
    | exact wpAny_bind (wpAny_bind (m := Builtin.Tuple.tupleExact _) (wpAny_newObj_type (wpAny_pure ⟨_, rfl, wpAny_pure fin⟩) fits))
end
section
variable {X : Cx}
/-- what x[::-1] gives of x -/
def RvR (X : Cx) (r : V → Hp → VK → Prop) : Prop := ∀ (pns : List (Addr × Obj)) (s : Shared) (σ : L2.St) (H : Hp) (x : V) (u st : Value) (sl : Addr) (Q : VK), Inv X pns σ H s → RelV x u → s.heap.IsSliceOf sl .none .none st → IsPart st (some (-1)) → r x H Q →
  ∃ T id, typeLookup (.type T) "__getitem__" = pure (some (.builtin id)) ∧ s.TypeIs u T ∧ wpAny (model X.prog X.w) X.A (getItem u (.ref sl)) (EP X pns σ Q) X.xe s
def tRv (r : V → Hp → VK → Prop) (te : TE) : TE := fun σ H Q => te σ H fun x H1 => r x H1 Q
theorem pe_rev {r : V → Hp → VK → Prop} (hr : RvR X r) {e : Expr} {te : TE} {k : Nat} {p1 p2 p3 pos : Pos} (ee : PE X e te) : PE X (.Subscript e (.Slice none none (some (.UnaryOp .USub (.Constant (.int 1) k p1) p2)) p3) pos) (tRv r te) := by
  constructor
  intro pns s0 σ H Q Iv hh
  refine Subscript_ (thn (ee.run pns s0 σ H _ Iv hh) ?_)
  rintro u s1 ⟨x, H1, I1, r1, q1⟩
  have less : PO X (some (.UnaryOp .USub (.Constant (.int 1) k p1) p2)) (tPart (tUn (rU fun i => .int (-i)) (tC (.int 1)))) := po_some (pe_un un_neg pe_int)
  refine wpAny_Slice (thn (po_none.run pns s1 σ H1 (fun o Hx => o = none ∧ Hx = H1) I1 ⟨rfl, rfl⟩) ?_)
  rintro ul s2 ⟨l, H2, I2, pl, el, e2⟩
  subst el e2
  refine thn (po_none.run pns s2 σ H2 (fun o Hx => o = none ∧ Hx = H2) I2 ⟨rfl, rfl⟩) ?_
  rintro uh s3 ⟨h, H3, I3, ph, eh, e3⟩
  subst eh e3
  refine thn (less.run pns s3 σ H3 (fun o Hx => o = some (-1) ∧ Hx = H3) I3 ⟨1, rfl, -1, rfl, rfl, rfl⟩) ?_
  rintro us s4 ⟨o, H4, I4, pz, eo, e4⟩
  subst eo e4
  cases pl
  cases ph
  have I5 : Inv X pns σ H4 { s4 with heap := s4.heap.push { cls := .type "slice", data := .fields #[.none, .none, us] } } := I4.kept (t' := s4.toks) fun b ob z => Heap.get?_push_of_some _ z
  obtain ⟨T, id, hT, ht, hg⟩ := hr pns { s4 with heap := s4.heap.push { cls := .type "slice", data := .fields #[.none, .none, us] } } σ H4 x u us s4.heap.objs.size Q I5 r1 (Heap.IsSliceOf.new ..) pz q1
  exact tail_any (ops := [u, .ref s4.heap.objs.size]) ht hT hg (by with_unfolding_all rfl)
def rRvT (K : PySem.W.Frag) : V → Hp → VK → Prop := fun x H Q => ∃ a xs, x = .ref a ∧ SqT K H a xs ∧ ∀ p, H p = none → Q (.ref p) (upd H p (.tup xs.reverse))
theorem rv_tup {K : PySem.W.Frag} (hK : X.K = K) : RvR X (rRvT K) := by
  subst hK
  intro pns s σ H x u st sl Q Iv rx hs ps h
  obtain ⟨a, xs, rfl, hx, q⟩ := h
  cases rx
  obtain ⟨its, r, ht, hz⟩ := Iv.tuple hx
  have hl : its.toArray.size = xs.length := by rw [List.size_toArray]; exact r.length.symm
  refine ⟨"tuple", _, PyProof.Rows.slot_tuple_getitem.lookup, ht.typeIs, rv_tuple ht hs ps (by rw [hl]; exact hz) ?_⟩
  refine ⟨.ref s.heap.objs.size, _, Iv.laid (t' := s.toks) (o := .tup xs.reverse) (fun b ob z => Heap.get?_push_of_some _ z) (Nat.le_refl _) ?_, rfl, q _ (Iv.hok.fresh (Nat.le_refl _))⟩
  exact ⟨by rw [List.length_reverse]; exact hz, _, r.reverse, IsTup.new _ _⟩
theorem pe_bmB {K : PySem.W.Frag} (hK : X.K = K) {o e : Expr} {es : List Expr} {to : TE} {t : TA} {name : Str} {apos cpos : Pos} {T id : String} {r : V → List V → Hp → VK → Prop} (pa : PlainAttrs T) (sl : Slot T name id) (ty : typeOf (.builtin id) = pure (.type "method_descriptor")) (mt : MtR X id r) (ho : PE X o to) (ha : PA X (e :: es) t)
    (h1 : attributeBase o name X.env (eval o X.env) = eval o X.env := by rfl) (h2 : (((backTo cpos (starEach (e :: es) X.env)).all fun x => !x.fst) && (backToKw cpos (keywordEach [] X.env)).all (fun x => x.fst.isSome) && decide (((e :: es).length + ([] : List Keyword).length + if ([] : List Keyword).isEmpty = true then 0 else 1) < 30)) = true := by rfl) (h3 : (apos.endLine == cpos.line) = true := by rfl)
    (h4 : starEach (e :: es) X.env = (false, eval e X.env) :: starEach es X.env := by rfl) (h5 : ((backTo cpos (starEach es X.env)).any fun x => x.fst) = false := by rfl) : PE X (.Call (.Attribute o name apos) (e :: es) [] cpos) (tBM K T r to t) := by
  subst hK
  exact pe_bm pa sl ty mt ho ha h1 h2 h3 h4 h5
def revS (z : Str) : Str := ⟨z.cps.toList.reverse.toArray⟩
theorem revS_cps (z : Str) : (revS z).cps.toList = z.cps.toList.reverse := by
  show z.cps.toList.reverse.toArray.toList = _
  simp
theorem revS_picked (z : Str) (t : Tok) : ((PySem.slicePicked z none none (some (-1, t))).filterMap (z.cps[·]?)).toArray = z.cps.toList.reverse.toArray := by
  show ((Builtin.Str.strSliceIndices none none (-1) z.length).filterMap (z.cps[·]?)).toArray = _
  rw [picked_rev]
  show (((List.range z.cps.size).map fun k => z.cps.size - 1 - k).filterMap (z.cps[·]?)).toArray = _
  rw [PySem.W.krv_range, List.filterMap_reverse, PySem.W.krv_all]
def rRvS : V → Hp → VK → Prop := fun x H Q => ∃ z : Str, x = .str z ∧ z.length ≤ sizeLine ∧ Q (.str (revS z)) H
theorem rv_str : RvR X rRvS := by
  intro pns s σ H x u st sl Q Iv rx hs ps h
  obtain ⟨z, rfl, hz, q⟩ := h
  obtain ⟨t, rfl⟩ := rx
  obtain ⟨ob, ob1, ob2, ob3⟩ := hs
  cases ps with
  | int i ts =>
  refine ⟨"str", _, F.slot_str_getitem.lookup, typeIs_str _ _ _, ?_⟩
  refine wpAny_getItem_str_slice (l := none) (u := none) (st := some (-1, ts)) ⟨ob, ob1, ob2, ob3⟩ rfl ?_
  have e : sliceMade z t none none (some (-1, ts)) = .str (revS z) := by
    unfold sliceMade
    rw [if_neg (by
      intro c
      rw [Bool.and_eq_true] at c
      exact absurd (show ((-1 : Int) == 1) = true from c.1) (by decide)), revS_picked]
    rfl
  rw [e]
  refine ⟨?_, .str _, H, Iv.tok _, ⟨_, rfl⟩, q⟩
  have e2 : (revS z).length = z.length := by
    have e3 : (revS z).length = (revS z).cps.toList.length := Array.length_toList.symm
    have e4 : z.length = z.cps.toList.length := Array.length_toList.symm
    rw [e3, e4, revS_cps, List.length_reverse]
  rw [e2]
  exact hz
end
end My
namespace My
open PySem PySem.Spec PyProof.Rows L2
/-! ### defs that errors leave -/
structure ClX (P : Program) (w : World) (K : PySem.W.Frag) (mg : Str → Option Value) (base : Heap) (k : Nat) (x : Str) (ps : List Str) (sp : Sp) : Prop where
  ex : ∃ (f : Addr) (fd : FuncData), FnOk P w K mg base (L2.CX P w) k f fd ps sp ∧ Binds K fd ps [] ∧ mg x = some (.ref f) ∧ PySem.W.keepIn K (.ref f) = true
theorem Df.clX {P : Program} {w : World} {K : PySem.W.Frag} {mg : Str → Option Value} {base : Heap} {x : Str} {st : Stmt} {ps : List Str} {f : Addr} {fd : FuncData} {k : Nat} {sp : Sp} (D : Df K mg x st ps f fd) (h : FnOk P w K mg base (L2.CX P w) k f fd ps sp) : ClX P w K mg base k x ps sp :=
  ⟨f, fd, h, D.b, D.g, D.F.kp⟩
theorem pe_clS {X : Cx} {W : WX} {k : Nat} {x : Str} {ps : List Str} {sp : Sp} {p pos : Pos} {e : Expr} {es : List Expr} {t : TA} (C : ClX X.prog X.w X.K X.mg X.base k x ps sp) (tk : Takes X W) (hr : Room k X.A) (hg : L2.Gl X x) (ha : PA X (e :: es) t)
    (hdb : (x == ("__debug__" : Str)) = false := by decide) (he : starEach (e :: es) X.env = (false, eval e X.env) :: starEach es X.env := by rfl) (hpl : (backTo pos (starEach es X.env)).any (·.1) = false := by rfl) :
    PE X (.Call (.Name x p) (e :: es) [] pos) (tCallS sp (WE W) t) := by
  obtain ⟨f, fd, F, b, m, kp⟩ := C.ex
  exact pe_callS F hr hg m kp b (fun σ => passAt tk σ) ha hdb he hpl
end My
set_option maxHeartbeats 2000000
/-! ### the error NotPossible -/
namespace ExNotPossible
open PySem PySem.W PySem.Calls PyProof.Rows PySem.HandSPX
def prm (p1 p2 : Pos) : Arguments := { posonlyargs := [], args := [{ arg := "self", annotation := none, pos := p1 }, { arg := "why", annotation := none, pos := p2 }], vararg := none, kwonlyargs := [], kw_defaults := [], kwarg := none, defaults := [] }
def say (a4 a5 a6 a7 : Pos) : Expr := .JoinedStr [.Constant (.str "not possible: ") 0 a4, .FormattedValue (.Name "why" a5) (-1) none a6] a7
def bod (a1 a2 a3 a4 a5 a6 a7 a8 a9 b1 b2 b3 b4 : Pos) : List Stmt := [.Expr (.Call (.Attribute (.Call (.Name "super" a1) [] [] a2) "__init__" a3) [say a4 a5 a6 a7] [] a8) a9, .Assign [.Attribute (.Name "self" b1) "why" b2] (.Name "why" b3) b4]
def scp : Scope := { kind := .function, names := [(PySem.Str.ofString "self", .local), (PySem.Str.ofString "why", .local), (PySem.Str.ofString "__class__", .free), (PySem.Str.ofString "super", .globalImplicit)], isGenerator := false, isCoroutine := false, more := [] }
/-- what the written part says of the class, at C, and of its __init__, at fI -/
structure Txt (K : Frag) (mg : Str → Option Value) (C fI : Addr) : Prop where
  gC : mg "NotPossible" = some (.ref C)
  cls : ∃ nm q N bs bm sn sub ab col dd k0 k1 k2 k3 k5, K.lookup C = some (excClassObj nm q C N bs bm true sn sub ab col dd k0 k1 k2 k3 k5 "ValueError.__new__") ∧ refsVE bm = true
  sa : findIn K (.ref C) "__setattr__" = some (some (.builtin "object.__setattr__"))
  ga : findIn K (.ref C) "__getattribute__" = some (some (.builtin "BaseException.__getattribute__"))
  gg : findIn K (.ref C) "__getattr__" = some none
  noN : findIn K (.ref C) "why" = some none
  iC : findIn K (.ref C) "__init__" = some (some (.ref fI))
  tC : typeIn K (.ref fI) = some (.type "function")
  kC : keepIn K (.ref C) = true
  exC : subIn K (.ref C) (.type "BaseException") = some true
  tyC : typeIn K (.ref C) = some (.type "type")
  hdC : hasDictIn K C = true
  up : ks_superIn K C C "__init__" = some (some (.builtin "ValueError.__init__"))
  sC : mroIn K C (.ref C) = some true
  sV : subIn K (.ref C) (.type "ValueError") = some true
  sS : subIn K (.ref C) (.ref C) = some true
  op : nsIn K cStatics "thirdparty.any" = some none
  gS : mg "super" = none
  fn : ∃ (oc : Value) (od : Option Addr) (doc pm : Value) (an : Option Addr) (cda cc : Addr) (ct : Value) (osl : Array (Option Value)) (p1 p2 a1 a2 a3 a4 a5 a6 a7 a8 a9 b1 b2 b3 b4 : Pos),
    K.lookup fI = some ⟨oc, od, .func (ksFn "__init__" "NotPossible.__init__" (prm p1 p2) (bod a1 a2 a3 a4 a5 a6 a7 a8 a9 b1 b2 b3 b4) scp .none .none doc pm an (.ref cda) ct cc), osl⟩ ∧ codeIn K (.ref cda) "NotPossible.__init__" = true ∧
    (∃ (o1 : Value) (o2 : Option Addr) (vs : Array Value) (o3 : Array (Option Value)) (file : Str) (tf : Tok), K.lookup cda = some ⟨o1, o2, .fields vs, o3⟩ ∧ vs[2]? = some (.str file tf) ∧ file = "/claim/cut.py") ∧
    (∃ (o1 : Value) (o2 : Option Addr) (o3 : Array (Option Value)), K.lookup cc = some ⟨o1, o2, .cell (some (.ref C)), o3⟩) ∧ (a3.endLine == a8.line) = true
/-- what the program's text says -/
structure Prg (P : Program) : Prop where
  file : P.main.file = "/claim/cut.py"
  sup : (P.main.scope.names.lookup ("super" : Str)).isSome = false
structure Made1 (h h' : Heap) (x C dx t1 : Addr) (v : Value) : Prop where
  keep : ∀ b o, b ≠ x → h.get? b = some o → h'.get? b = some o
  obj : h'.get? x = some { cls := .ref C, dict := some dx, data := .fields #[.ref t1, .none, .none, .none, .bool false, .none] }
  big : h.objs.size ≤ dx
  ne : dx ≠ x
  ns : h'.Ns1 dx (fun y => if y = "why" then some v else none)
structure Made2 (h h' : Heap) (e C d : Addr) (v : Value) : Prop where
  keep : ∀ b o, h.get? b = some o → h'.get? b = some o
  new : h.objs.size ≤ e
  obj : ∃ oe vs, h'.get? e = some oe ∧ oe.cls = .ref C ∧ oe.dict = some d ∧ oe.data = .fields vs ∧ vs[1]? = some .none
  big : h.objs.size ≤ d
  ne : d ≠ e
  ns : h'.Ns1 d (fun y => if y = "why" then some v else none)
theorem ldE {M : Model} {A : Around} {E : Value → Shared → Prop} {s : Shared} {env : Env} {m : Str → Option Value} {x : Str} {pos : Pos} {v : Value} {Q : Value → Shared → Prop} (hn : s.heap.Ns env.locals m) (hv : m x = some v) (h : Q v s)
    (hk : env.scope.kind = .function := by rfl) (hl : env.kindOf x = some .local := by rfl) (hd : (x == ("__debug__" : Str)) = false := by decide) : wpAny M A (eval (.Name x pos) env) Q E s := wpAny_Name (wpAny_loadName_local hk hl hn hv h) hd
section
variable {prog : Program} {w : World} {A : Around} {E : Value → Shared → Prop} {s : Shared} {C : Addr}
variable {nm q : Str} {N : Addr} {bs bm : List Value} {hdct : Bool} {sn : List Str} {sub : List Value} {ab : Bool} {col : Option Bool} {dd : Option Addr} {k0 k1 k2 k3 k5 : Option Value}
/-- the bound ValueError.__init__ of a fresh error, called -/
theorem bound_init {u x t0 : Addr} {y : Value} {Q : Value → Shared → Prop} (hC : s.heap.get? C = some (excClassObj nm q C N bs bm hdct sn sub ab col dd k0 k1 k2 k3 k5 "ValueError.__new__")) (hx : s.heap.get? x = some (excO C t0)) (hu : s.heap.get? u = some (kxs_mw "ValueError.__init__" x))
    (k : ∀ h' t1, (∀ b o, b ≠ x → s.heap.get? b = some o → h'.get? b = some o) → h'.get? x = some (excO C t1) → Q .none { s with heap := h' }) :
    wpAny (model prog w) A (call (.ref u) [y]) Q E s := by
  obtain ⟨h, g, d, t, os⟩ := s
  have FB := F.excBase_ValueError
  refine wpAny_call (codeAny_of_tree ?_)
  show wpAny _ A.in1 (callAny (.ref u) ⟨[y], []⟩) _ _ _
  simp only [callAny]
  refine wpAny_bind (wpAny_load hu ?_)
  simp only [kxs_mw, show (Value.type "method-wrapper" == Value.type "method" || Value.type "method-wrapper" == Value.type "builtin_function_or_method" || Value.type "method-wrapper" == Value.type "method-wrapper") = true by decide, if_true]
  refine KFB.if_so (by decide) ?_
  refine wpAny_bind (check_bound_init FB.toExcCallFacts hC hx rfl ?_)
  refine wpAny_bind (wpAny_pure (wpAny_pure ?_))
  refine ⟨Code.quiet_builtin _ (by decide +kernel), codeAny_builtin FB.initEntry ?_⟩
  rw [Around.under_plainId FB.init.plain _]
  wp_walk
  refine k _ h.objs.size (fun b o hb ho => ?_) ?_
  · rw [Heap.get?_update_other _ _ (Ne.symm hb)]
    exact Heap.get?_push_of_some _ ho
  · rw [Heap.get?_update_self _ (Heap.get?_push_of_some _ hx) rfl]
    rfl
end
theorem call_eq (a1 a2 a3 a4 a5 a6 a7 a8 : Pos) (env : Env) (h : (a3.endLine == a8.line) = true) : ∃ pl : Sem Bool, eval (.Call (.Attribute (.Call (.Name "super" a1) [] [] a2) "__init__" a3) [say a4 a5 a6 a7] [] a8) env = (do
      let ov ← attributeBase (.Call (.Name "super" a1) [] [] a2) "__init__" env (eval (.Call (.Name "super" a1) [] [] a2) env)
      standAt a3.atName
      let (f, first) ← holding [ov] (getMethod ov "__init__" pl)
      callWith a8 f first (backTo a8 (starEach [say a4 a5 a6 a7] env)) []) := by
  refine ⟨(do return (← importBound (.Call (.Name "super" a1) [] [] a2) env).getD true), ?_⟩
  have e0 : eval (.Call (.Attribute (.Call (.Name "super" a1) [] [] a2) "__init__" a3) [say a4 a5 a6 a7] [] a8) env = (do
      let ov ← attributeBase (.Call (.Name "super" a1) [] [] a2) "__init__" env (eval (.Call (.Name "super" a1) [] [] a2) env)
      standAt a3.atName
      methodCall (.Call (.Name "super" a1) [] [] a2) "__init__" a3 a8 env ov 1 (backTo a8 (starEach [say a4 a5 a6 a7] env)) []) := by rfl
  have few : methodCallForm 1 (backTo a8 (starEach [say a4 a5 a6 a7] env)) [] = true := by rfl
  have e1 : methodCallPos true (.Call (.Name "super" a1) [] [] a2) env a3 a8 = pure a8 := by
    unfold methodCallPos
    rw [if_pos (by rw [h]; rfl)]
  rw [e0]
  congr 1
  funext ov
  congr 1
  funext _
  unfold methodCall
  rw [few, e1]
  rfl
section
variable {prog : Program} {w : World} {A : Around} {E : Value → Shared → Prop} {s : Shared}
theorem callW {u x : Addr} {a4 a5 a6 a7 a8 : Pos} {env : Env} {Q : Value → Shared → Prop} (h : wpAny (model prog w) A (spliced (backTo a8 (starEach [say a4 a5 a6 a7] env))) (fun vs s₁ => KxsAt "ValueError.__init__" u x s₁.heap ∧ wpAny (model prog w) A (call (.ref u) vs) Q E s₁) E s) :
    wpAny (model prog w) A (callWith a8 (.ref u) [] (backTo a8 (starEach [say a4 a5 a6 a7] env)) []) Q E s := by
  have hs : starEach [say a4 a5 a6 a7] env = (false, eval (say a4 a5 a6 a7) env) :: starEach [] env := by rfl
  rw [hs] at h ⊢
  refine kxs_callWith (i := "ValueError.__init__") (x := x) (by rfl) ?_
  exact evalArgs_plain h
theorem say_args {m : Str → Option Value} {v : Str} {tv : Tok} {a4 a5 a6 a7 a8 : Pos} {env : Env} {Q : List Value → Shared → Prop} (hn : s.heap.Ns env.locals m) (hm : m "why" = some (.str v tv)) (hk : env.scope.kind = .function) (hl : env.kindOf "why" = some .local) (hv : v.length ≤ 1000000)
    (h : ∀ y tk, Q [y] { s with toks := tk }) : wpAny (model prog w) A (spliced (backTo a8 (starEach [say a4 a5 a6 a7] env))) Q E s := by
  have hs : starEach [say a4 a5 a6 a7] env = (false, eval (say a4 a5 a6 a7) env) :: starEach [] env := by rfl
  refine args_cons ?_ hs
  unfold say
  refine wpAny_JoinedStr ?_
  have e0 : evalEach [.Constant (.str "not possible: ") 0 a4, .FormattedValue (.Name "why" a5) (-1) none a6] env = [eval (.Constant (.str "not possible: ") 0 a4) env, eval (.FormattedValue (.Name "why" a5) (-1) none a6) env] := by rfl
  rw [e0]
  have hp : (Str.empty ++ ("not possible: " : Str)).length = 14 := by decide +kernel
  have hl2 : ((Str.empty ++ ("not possible: " : Str)) ++ v).length ≤ sizeLine := by
    have e : ((Str.empty ++ ("not possible: " : Str)) ++ v).length = (Str.empty ++ ("not possible: " : Str)).length + v.length := Array.size_append
    rw [e, sizeLine_eq, hp]
    omega
  refine wpAny_Constant_str ⟨"not possible: ", _, rfl, by rw [hp, sizeLine_eq]; decide, ?_⟩
  refine wpAny_FormattedValue_plain (ldE (v := .str v tv) hn hm ?_ hk hl)
  refine wpAny_formatField_str ⟨v, tv, rfl, hl2, hl2, args_nil (h _ _)⟩ ⟨v, _, rfl, hl2, hl2, args_nil (h _ _)⟩ ?_
  rw [sizeLine_eq]
  omega
end
section
variable {prog : Program} {w : World} {A : Around} {E : Value → Shared → Prop} {R : Result → Shared → Prop} {s : Shared} {K : Frag} {mg mb : Str → Option Value} {C fI : Addr}
theorem init1 (T : Txt K mg C fI) (G : Prg prog) {x t0 : Addr} {v : Str} {tv : Tok} (X : K.In s.heap) (hG : s.heap.Ns mainGlobals mg) (hB : s.heap.Ns builtinsNs mb) (hb : mb "super" = some (.type "super")) (hlim : s.heap.NoLimit) (hx : s.heap.get? x = some (excO C t0)) (hnx : ∀ o, K.lookup x ≠ some o) (hroom : A.depth < recursionLimit) (hv : v.length ≤ 1000000)
    (hq : ∀ h' tk dx t1, Made1 s.heap h' x C dx t1 (.str v tv) → R (.ok (.ret .none)) { s with heap := h', toks := tk }) :
    codeAny (model prog w) A (.call (.ref fI) ⟨[.ref x, .str v tv], []⟩) R s := by
  obtain ⟨oc, od, doc, pm, an, cda, cc, ct, osl, p1, p2, a1, a2, a3, a4, a5, a6, a7, a8, a9, b1, b2, b3, b4, ho, hcd, ⟨o1, o2, vs, o3, file, tf, hcode, hvs, rfl⟩, ⟨o4, o5, o6, hcell⟩, hpos⟩ := T.fn
  obtain ⟨nm, q, N, bs, bm, sn, sub, ab, col, dd, k0, k1, k2, k3, k5, hC, hbm⟩ := T.cls
  have hcl : clsIn K C = some { name := nm, bases := bs, mro := .ref C :: bm, ns := N, qualname := q, hasDict := true, slotNames := sn, subclasses := sub, abstract := ab, collection := col, hasDel := false } := by unfold clsIn; rw [hC] <;> rfl
  have hxC : x ≠ C := fun e => by
    have z := X _ _ hC
    rw [← e, hx] at z
    cases z
  refine ks_codeAny_call_defAt (fd := ksFn "__init__" "NotPossible.__init__" (prm p1 p2) (bod a1 a2 a3 a4 a5 a6 a7 a8 a9 b1 b2 b3 b4) scp .none .none doc pm an (.ref cda) ct cc) (body := bod a1 a2 a3 a4 a5 a6 a7 a8 a9 b1 b2 b3 b4) (binds := [("self", .ref x), ("why", .str v tv)]) hroom (X _ _ ho) rfl hlim (codeRec_of X hcd) rfl (BindsTo.of_eq (by first | rfl | with_unfolding_all rfl)) (show ∀ y ∈ scp.names, y.2 ≠ NameKind.cell by decide) (fun y hy => by
    rcases List.mem_cons.mp hy with rfl | hy
    · rfl
    · rw [List.mem_singleton.mp hy]
      rfl) (fun h₁ hns hk => ?_)
  have X1 : K.In h₁ := X.keeps hk
  have hx1 := hk _ _ hx
  have hL : s.heap.objs.size ≠ x := Nat.ne_of_gt (Heap.lt_size hx)
  obtain ⟨hp, g, d, t, os⟩ := s
  obtain ⟨pl, he⟩ := call_eq a1 a2 a3 a4 a5 a6 a7 a8 (callEnv (ksFn "__init__" "NotPossible.__init__" (prm p1 p2) (bod a1 a2 a3 a4 a5 a6 a7 a8 a9 b1 b2 b3 b4) scp .none .none doc pm an (.ref cda) ct cc) hp.objs.size fI) hpos
  refine ks_wpAt_execs_cons (ks_wpAt_Expr_any (ks_wpAt_MethodCall (pl := pl) ?_ he))
  refine ks_wpAt_super_base rfl rfl (by decide) rfl (X1 _ _ ho) rfl rfl rfl (X1 _ _ hcode) rfl hvs (by rw [G.file]; exact beq_self_eq_true _) G.sup ?_
  refine ks_loadName_global rfl rfl (loadGlobal_builtin (hG.keeps hk) T.gS (hB.keeps hk) hb ⟨rfl, ?_⟩)
  refine wpAny_loadName_free rfl rfl rfl ⟨_, X1 _ _ hcell, rfl⟩ ?_
  refine wpAny_loadName_local rfl rfl hns (by first | rfl | with_unfolding_all rfl) ?_
  refine ks_wpAny_isType_cls (X1 _ _ hC) rfl ⟨rfl, ?_⟩
  refine ks_wpAny_call_super (X1 _ _ hC) rfl hx1 rfl (fun c e => by cases e) (looks_mroIn X1 T.sC) (fun h₂ e2 kk2 => ?_)
  have X2 : K.In h₂ := X1.keeps kk2
  have hx2 := kk2 _ _ hx1
  have up := T.up
  unfold ks_superIn at up
  rw [hcl] at up
  have I2 : InstAt h₂ x (excO C t0) C none := ⟨hx2, rfl, rfl, trivial⟩
  refine kxs_getMethod kxs_ValueError e2 (looks_opaque X2 T.op) (l₀ := .ref C :: bm) (fun A Q E s k q => wpAny_bind ((looks_clsIn X2 hcl) A _ E s k (wpAny_pure q))) rfl X2 up (I2.type.andThen (looks_subIn X2 T.sV)) hxC (by decide) ?_
  show wpAny _ _ (callWith a8 (.ref h₂.objs.size) [] (backTo a8 (starEach [say a4 a5 a6 a7] _)) []) _ _ _
  have hx3 : (h₂.push (kxs_mw "ValueError.__init__" x)).get? x = some (excO C t0) := Heap.get?_push_of_some _ hx2
  have hu3 : (h₂.push (kxs_mw "ValueError.__init__" x)).get? h₂.objs.size = some (kxs_mw "ValueError.__init__" x) := Heap.get?_push_at rfl rfl
  have kk3 : ∀ b o, h₁.get? b = some o → (h₂.push (kxs_mw "ValueError.__init__" x)).get? b = some o := fun b o e => Heap.get?_push_of_some _ (kk2 b o e)
  have hns3 := hns.keeps kk3
  have hC3 := X2.keeps (fun b o e => Heap.get?_push_of_some (kxs_mw "ValueError.__init__" x) e) _ _ hC
  revert hx3 hu3 kk3 hns3 hC3
  generalize hu0 : h₂.objs.size = u
  generalize (h₂.push (kxs_mw "ValueError.__init__" x)) = h₃
  intro hx3 hu3 kk3 hns3 hC3
  have hul : hp.objs.size < u := by
    rw [← hu0]
    have z := hns
    obtain ⟨oL, es, ep, hL1, _⟩ := z
    exact Heap.lt_size (kk2 _ _ hL1)
  refine callW (x := x) (say_args hns3 (by first | rfl | with_unfolding_all rfl) rfl rfl hv fun y tk => ⟨hu3, ?_⟩)
  refine bound_init (s := ⟨h₃, g, d, tk, os⟩) hC3 hx3 hu3 fun h₄ t1 k4 hx4 => ?_
  have kk4 : ∀ b o, b ≠ x → hp.get? b = some o → h₄.get? b = some o := fun b o nb e => k4 b o nb (kk3 _ _ (hk b o e))
  have X4 : K.In h₄ := fun b o e => k4 b o (fun z => by
    have z1 := X b o e
    rw [z, hx] at z1
    exact hnx o (by rw [← z]; exact e)) (kk3 _ _ (hk b o (X b o e)))
  have hns4 := hns3.at fun o e => k4 _ o hL e
  show _root_.PySem.wpAt _ _ _ (execs [Stmt.Assign [.Attribute (.Name "self" b1) "why" b2] (.Name "why" b3) b4] _) _ _ _
  refine wpAt_of_wpAny (wpAny_execs_cons (plainObj_wpAny_Assign_Attribute ?_))
  refine ldE (v := .str v tv) hns4 (by first | rfl | with_unfolding_all rfl) (ldE (v := .ref x) hns4 (by first | rfl | with_unfolding_all rfl) ?_)
  refine set_plain X4 (ox := excO C t1) (od := none) ⟨hx4, rfl, rfl, trivial⟩ T.sa ?_
  refine exc_osa X4 hx4 hcl (show refsVE (.ref C :: bm) = true from hbm) rfl T.noN (fun h₅ tk₅ dx k5 dn dne hx5 hn5 => ?_)
  show wpAny _ _ (execs _ _) _ _ _
  have z : hp.objs.size < h₄.objs.size := hns4.lt
  exact wpAny_execs_nil (hq h₅ tk₅ dx t1 ⟨fun b o hb e => k5 b o hb (kk4 b o hb e), hx5, Nat.le_of_lt (Nat.lt_of_lt_of_le z dn), dne, hn5⟩)
theorem made (T : Txt K mg C fI) (G : Prg prog) {v : Str} {tv : Tok} (X : K.In s.heap) (hG : s.heap.Ns mainGlobals mg) (hB : s.heap.Ns builtinsNs mb) (hb : mb "super" = some (.type "super")) (hlim : s.heap.NoLimit) (hroom : A.depth + 1 < recursionLimit) (hv : v.length ≤ 1000000)
    (hq : ∀ h' tk e d, Made2 s.heap h' e C d (.str v tv) → R (.ok (.ret (.ref e))) { s with heap := h', toks := tk }) :
    codeAny (model prog w) A (.call (.ref C) ⟨[.str v tv], []⟩) R s := by
  obtain ⟨nm, q, N, bs, bm, sn, sub, ab, col, dd, k0, k1, k2, k3, k5, hC, hbm⟩ := T.cls
  obtain ⟨hp, g, dr, tk, os⟩ := s
  have k : ∀ b o, hp.get? b = some o → ((hp.push (kdv_tup [.str v tv])).push (excO C hp.objs.size)).get? b = some o := fun b o e => Heap.get?_push_of_some _ (Heap.get?_push_of_some _ e)
  have hget : ((hp.push (kdv_tup [.str v tv])).push (excO C hp.objs.size)).get? (hp.objs.size + 1) = some (excO C hp.objs.size) := by heap_get
  have hnx : ∀ o, K.lookup (hp.objs.size + 1) ≠ some o := fun o e => by
    have z : hp.get? (hp.objs.size + 1) = some o := X _ _ e
    exact absurd (Nat.lt_of_succ_lt (Heap.lt_size z)) (Nat.lt_irrefl _)
  refine call_own F.excBase_ValueError (fun X => refsVE_contains X bm hbm) (X _ _ hC) (looks_findIn X T.iC) (fun self => bind_fn X self T.tC) (by rw [sizeLine_eq]; exact (by decide : 1 ≤ 16777216)) ?_
  refine init1 (s := ⟨(hp.push (kdv_tup [.str v tv])).push (excO C hp.objs.size), g, dr, tk, os⟩) T G (X.keeps k) (hG.keeps k) (hB.keeps k) hb (hlim.keeps k) hget hnx ?_ hv fun h' tk' dx t1 M => ?_
  · show A.depth + 1 < recursionLimit
    exact hroom
  · have old : ∀ b o, hp.get? b = some o → h'.get? b = some o := fun b o e => M.keep b o (Nat.ne_of_lt (Nat.lt_succ_of_lt (Heap.lt_size e))) (k b o e)
    have z : hp.objs.size + 1 + 1 ≤ dx := by
      have q := M.big
      rw [Heap.size_push, Heap.size_push] at q
      exact q
    exact ⟨rfl, hq h' tk' (hp.objs.size + 1) dx ⟨old, Nat.le_succ _, ⟨_, _, M.obj, rfl, rfl, rfl, rfl⟩, Nat.le_trans (Nat.le_trans (Nat.le_succ _) (Nat.le_succ _)) z, M.ne, M.ns⟩⟩
end
end ExNotPossible
namespace My
open PySem PySem.Spec PyProof.Rows L2
theorem relNotPossible {v : V} {v' : Value} (r : RelV v v') (f : Str) : RelO (List.lookup f [(("why" : Str), v)]) (if f = "why" then some v' else none) := by
  by_cases hw : f = "why"
  · subst hw
    rw [if_pos rfl]
    have q : List.lookup ("why" : Str) [(("why" : Str), v)] = some v := by simp [List.lookup]
    rw [q]
    exact r
  · rw [if_neg hw]
    have qw : (f == ("why" : Str)) = false := by simpa using hw
    have q2 : List.lookup f [(("why" : Str), v)] = none := by simp [List.lookup, qw]
    rw [q2]
    trivial
theorem xfNotPossible {K : PySem.W.Frag} {mg : Str → Option Value} {C fI : Addr} (T : ExNotPossible.Txt K mg C fI) : XfC K C := ⟨T.ga, T.gg, T.exC, T.hdC⟩
theorem teNotPossible {K : PySem.W.Frag} {mg : Str → Option Value} {C fI : Addr} (T : ExNotPossible.Txt K mg C fI) : PySem.W.exmOne K (.ref C) (.ref C) = some true := PySem.W.exm_ref T.exC T.hdC T.tyC T.sS
section
variable {X : Cx} {C fI : Addr}
/-- NotPossible(e), e a text -/
def tMkNotPossible (C : Addr) (ta : TA) : L2.St → Hp → XK → Prop := fun σ H Q => ta σ H fun vs H1 => ∃ v : Str, vs = [.str v] ∧ v.length ≤ 1000000 ∧ ∀ d, H1 d = none → Q (.ref C) (some d) (upd H1 d (.xd [(("why" : Str), .str v)]))
theorem pmkNotPossible {a : Expr} {ta : TA} {p pos : Pos} {k : Nat} (T : ExNotPossible.Txt X.K X.mg C fI) (G : ExNotPossible.Prg X.prog) (hr : Room k X.A) (ha : PA X [a] ta) (hg : L2.Gl X "NotPossible" := by rfl)
    (he : starEach (a :: []) X.env = (false, eval a X.env) :: starEach [] X.env := by rfl) (hpl : (backTo pos (starEach [] X.env)).any (·.1) = false := by rfl) :
    PMk X (.Call (.Name "NotPossible" p) [a] [] pos) (tMkNotPossible C ta) := by
  intro pins s σ H Q I h
  refine wpAny_Call_Name_kw (ld_glob I hg T.gC ?_)
  refine PySem.W.callWith_K (h₀ := X.base) I.ok.mod.kin T.kC (thn (ha.run pos pins s σ H _ I h) fun us s1 hh => ?_) he hpl
  obtain ⟨vs, H1, I1, r1, v, ev, hv, q1⟩ := hh
  subst ev
  refine ⟨I1.kIn, ?_⟩
  obtain ⟨u, rfl, ru⟩ := vals1 r1
  obtain ⟨tv, rfl⟩ := ru
  show wpAny _ _ (call (.ref C) [.str v tv]) _ _ _
  have hlim := I1.nolimit
  obtain ⟨mb, m1, m2⟩ := I1.mod.blt
  have hG := I1.mod.glob.keeps I1.bk
  have hB := m1.keeps I1.bk
  have hb : mb "super" = some (.type "super") := (m2 _ (by decide)).trans (by decide +kernel)
  obtain ⟨hp, g, dr, tk, os⟩ := s1
  refine wpAny_call (ExNotPossible.made T G I1.kIn hG hB hb hlim (by have := hr.dp; omega) hv fun h' tk' e d M => ?_)
  show MkP X pins σ Q (.ref e) ⟨h', g, dr, tk', os⟩
  obtain ⟨oe, fv, hoe, hc, hd, hdat, h1⟩ := M.obj
  have hns := M.ns
  obtain ⟨G', g1, g2⟩ := restrict h' fun b => decide (b ≠ e)
  have gk : ∀ b, b ≠ e → G'.get? b = h'.get? b := fun b hb => g1 b (decide_eq_true hb)
  have ge : G'.get? e = none := g2 e (by simp)
  have old : ∀ b o, hp.get? b = some o → G'.get? b = some o := fun b o q => (gk b (Nat.ne_of_lt (Nat.lt_of_lt_of_le (Heap.lt_size q) M.new))).trans (M.keep b o q)
  have ob : ObjOk X.prog X.w (upd H1 d (.xd [(("why" : Str), .str v)])) G' d (.xd [(("why" : Str), .str v)]) :=
    ⟨_, hns.at (fun o q => (gk d M.ne).trans q), fun f => relNotPossible (v := .str v) (v' := .str v tv) ⟨tv, rfl⟩ f⟩
  have J : Inv X pins σ (upd H1 d (.xd [(("why" : Str), .str v)])) ⟨G', g, dr, tk', os⟩ := I1.laid (t' := tk') old M.big ob
  refine ⟨e, oe, fv, ⟨G', g, dr, tk', os⟩, _, .ref C, some d, rfl, J, fun b o q => ?_, ge, hoe, ⟨hc, hd⟩, hdat, h1, ?_, rfl, I1.bare, raises_own T.exC T.tyC, q1 d (I1.hok.fresh M.big)⟩
  · by_cases hb : b = e
    · have q' : G'.get? b = some o := q
      rw [hb, ge] at q'; cases q'
    · exact (gk b hb).symm.trans q
  · rw [upd_ne (Ne.symm M.ne)]
    exact I1.hok.fresh M.new
end
end My
namespace My
open PySem PySem.Spec PyProof.Rows L2
/-! ### objects made by an __init__ that errors may leave -/
structure CkX (P : Program) (w : World) (K : PySem.W.Frag) (mg : Str → Option Value) (base : Heap) (k : Nat) (x : Str) (ps : List Str) (sp : Sp) (C : Addr) : Prop where
  ex : ∃ (f : Addr) (fd : FuncData), Mk K C f ∧ FnOk P w K mg base (L2.CX P w) k f fd ps sp ∧ Binds K fd ps [] ∧ mg x = some (.ref C)
def tMakeS (C : Addr) (sp : Sp) (E : L2.St → XK) (t : TA) : TE := fun σ H Q => t σ H fun vs H1 => ∀ x dx, H1 x = none → H1 dx = none → dx ≠ x →
  sp (.ref x :: vs) (upd (upd H1 dx (.own x)) x (.ins C dx [])) (fun v H2 => v = .non ∧ Q (.ref x) H2) (E σ)
section
variable {X : Cx} {CX : CXT} {k : Nat} {f C : Addr} {fd : FuncData} {ps : List Str} {sp : Sp} {E : L2.St → XK} {x : Str} {p pos : Pos} {e : Expr} {es : List Expr} {t : TA}
theorem run_makeS {pins : List (Addr × Obj)} {σ : L2.St} {H : Hp} {s : Shared} {Q : VK} {us : List Value} {vs : List V} (M : Mk X.K C f) (F : FnOk X.prog X.w X.K X.mg X.base CX k f fd ps sp) (hr : Room (k + 1) X.A) (hb : Binds X.K fd ps [])
    (hx : PassesAt CX X σ (E σ)) (I : Inv X pins σ H s) (r : Vals vs us)
    (h : ∀ x dx, H x = none → H dx = none → dx ≠ x → sp (.ref x :: vs) (upd (upd H dx (.own x)) x (.ins C dx [])) (fun v H2 => v = .non ∧ Q (.ref x) H2) (E σ)) :
    wpAny (model X.prog X.w) X.A (call (.ref C) us) (EP X pins σ Q) X.xe s := by
  have hq := h (s.heap.objs.size + 1) s.heap.objs.size (I.hok.fresh (Nat.le_succ _)) (I.hok.fresh (Nat.le_refl _)) (Nat.ne_of_lt (Nat.lt_succ_self _))
  have I2 := Inv.made (C := C) I
  have r2 : Vals (V.ref (s.heap.objs.size + 1) :: vs) (Value.ref (s.heap.objs.size + 1) :: us) := .cons rfl r
  have hl : (Value.ref (s.heap.objs.size + 1) :: us ++ ([] : List Value)).length = ps.length := by
    have e := r2.length
    rw [F.len _ _ _ _ hq] at e
    rw [List.append_nil]
    exact e.symm
  have b := hb _ (Value.ref (s.heap.objs.size + 1) :: us) I2.kIn hl
  rw [List.append_nil] at b
  refine wpAny_call (make_map (f := f) I.kIn M.makes M.init (beq_iff_eq.mp M.fn) (codeAny_mono (F.run _ X.stack _ _ ⟨Value.ref (s.heap.objs.size + 1) :: us, []⟩ (Value.ref (s.heap.objs.size + 1) :: us) _ _ (E σ) (hr.make C us [])
    (I2.env0.make C us []) b r2 hq) fun r s' hq' => ?_))
  cases r with
  | error e => exact hx pins _ _ e s' I2 hq'
  | ok fl =>
    cases fl with
    | ret u =>
      obtain ⟨v, H', I3, rv, ev, q3⟩ := I2.after hq'
      subst ev
      exact ⟨rv, ⟨V.ref (s.heap.objs.size + 1), H', I3, rfl, q3⟩⟩
    | next => exact False.elim hq'
    | brk => exact False.elim hq'
    | cont => exact False.elim hq'
theorem pe_mkX {W : WX} (c : CkX X.prog X.w X.K X.mg X.base k x ps sp C) (tk : Takes X W) (hr : Room (k + 1) X.A) (hg : L2.Gl X x) (ha : PA X (e :: es) t)
    (hdb : (x == ("__debug__" : Str)) = false := by decide) (he : starEach (e :: es) X.env = (false, eval e X.env) :: starEach es X.env := by rfl) (hpl : (backTo pos (starEach es X.env)).any (·.1) = false := by rfl) :
    PE X (.Call (.Name x p) (e :: es) [] pos) (tMakeS C sp (WE W) t) := by
  obtain ⟨f, fd, M, F, b, m⟩ := c.ex
  refine ⟨fun pins s σ H Q I h => ?_⟩
  refine wpAny_Call_Name_kw (ld_glob I hg m ?_ hdb)
  refine PySem.W.callWith_K (h₀ := X.base) I.ok.mod.kin M.kp (thn (ha.run pos pins s σ H _ I h) fun us s1 ⟨vs, H1, I1, r, q⟩ => ⟨I1.kIn, ?_⟩) he hpl
  exact run_makeS M F hr b (passAt tk σ) I1 r q
end
end My
namespace My
open PySem PySem.Spec PyProof.Rows L2
/-! ### methods that errors leave -/
structure MtX (P : Program) (w : World) (K : PySem.W.Frag) (mg : Str → Option Value) (base : Heap) (k : Nat) (C : Addr) (m : Str) (ps : List Str) (sp : Sp) : Prop where
  ex : ∃ (f : Addr) (fd : FuncData), FnOk P w K mg base (L2.CX P w) k f fd ps sp ∧ Binds K fd ps [] ∧ Meth K C m f ∧ Cls K C
theorem DfM.mtX {P : Program} {w : World} {K : PySem.W.Frag} {mg : Str → Option Value} {base : Heap} {C : Addr} {m q : Str} {st : Stmt} {ps : List Str} {f : Addr} {fd : FuncData} {k : Nat} {sp : Sp} (D : DfM K C m q st ps f fd) (h : FnOk P w K mg base (L2.CX P w) k f fd ps sp) : MtX P w K mg base k C m ps sp := ⟨f, fd, h, D.b, D.me, D.c⟩
def tMethS (C : Addr) (m : Str) (sp : Sp) (E : L2.St → XK) (ta : TE) (t : TA) : TE := fun σ H Q => ta σ H fun x H1 => ∃ a dx fs, x = .ref a ∧ H1 a = some (.ins C dx fs) ∧ fs.lookup m = none ∧
  t σ H1 fun vs H2 => sp (x :: vs) H2 Q (E σ)
theorem pe_mtS {X : Cx} {W : WX} {k : Nat} {C : Addr} {m : Str} {ps : List Str} {sp : Sp} {o e : Expr} {es : List Expr} {ta : TE} {t : TA} {apos pos : Pos} {pl : Sem Bool} (h : MtX X.prog X.w X.K X.mg X.base k C m ps sp) (tk : Takes X W) (hr : Room k X.A) (ho : PE X o ta) (ha : PA X (e :: es) t)
    (hst : starEach (e :: es) X.env = (false, eval e X.env) :: starEach es X.env := by rfl) (hpl : (backTo pos (starEach es X.env)).any (·.1) = false := by rfl)
    (ht : eval (.Call (.Attribute o m apos) (e :: es) [] pos) X.env = (do
      let ov ← eval o X.env
      standAt apos.atName
      let (f, first) ← holding [ov] (getMethod ov m pl)
      callWith pos f first (backTo pos (starEach (e :: es) X.env)) (backToKw pos (keywordEach [] X.env))) := by rfl) :
    PE X (.Call (.Attribute o m apos) (e :: es) [] pos) (tMethS C m sp (WE W) ta t) := by
  obtain ⟨f, fd, F, b, hm, c⟩ := h.ex
  refine ⟨fun pins s σ H Q I h => ?_⟩
  refine PySem.W.methodCall_KW (pl := pl) (thn (ho.run pins s σ H _ I h) fun u s1 ⟨x, H1, I1, rx, a, dx, fs, ex, ea, l, q⟩ => ?_) ht
  subst ex
  obtain rfl : u = Value.ref a := rx
  refine getmeth_ok I1 ea c hm l ?_
  refine PySem.W.callWith_K (first := [.ref a]) (h₀ := X.base) I.ok.mod.kin hm.kp (thn (ha.run pos pins s1 σ H1 _ I1 q) fun us s2 ⟨vs, H2, I2, r, q2⟩ => ⟨I2.kIn, ?_⟩) hst hpl
  exact run_fnS (us := .ref a :: us) (vs := .ref a :: vs) F hr b (passAt tk σ) I2 (.cons rfl r) q2
end My
namespace My
open PySem PySem.Spec PyProof.Rows L2
/-! ### try .. except X, in a loop -/
def tTryN (K : PySem.W.Frag) (c : Value) (ts : Addr → Value → Option Addr → TS) (Wout : WX) (tb : WX → TS) : TS := fun D σ H => tb (wOnly K c ts Wout D) D σ H
theorem ps_try_onlyN {X : Cx} {x : Str} {c : Value} {body suite : List Stmt} {b₀ : Stmt} {np pos pos' : Pos} {tb : WX → TS} {ts : Addr → Value → Option Addr → TS} {Wout : WX} (hs : X.stack = X.env :: X.outer) (hf : X.env.frame = some X.env.locals) (hc : Names X x c) (tk : Takes X Wout)
    (hb : ∀ (W : WX) (pn : List (Addr × Obj)) (xe : Value → Shared → Prop), Takes (X.tr pn xe) W → PassesOwn (model X.prog X.w) X.A X.env xe → PSs (X.tr pn xe) body (tb W))
    (hsu : ∀ (a : Addr) (oe : Obj) (cls : Value) (d : Option Addr) (pn : List (Addr × Obj)), Zc cls d oe → (∃ vs, oe.data = .fields vs) → PSs (X.suite a ((a, oe) :: pn)) (b₀ :: suite) (ts a cls d)) :
    PS X (.Try body [.ExceptHandler (some (.Name x np)) none (b₀ :: suite) pos'] [] [] pos) (tTryN X.K c ts Wout tb) := ps_try_only hs hf hc tk hb hsu
end My
namespace My
open PySem PySem.Spec PyProof.Rows L2
/-! ### a promise at a lower level serves at a higher one -/
theorem Cl.up {P : Program} {w : World} {K : PySem.W.Frag} {mg : Str → Option Value} {base : Heap} {k k' : Nat} {x : Str} {ps : List Str} {sp : Sp} (c : Cl P w K mg base k x ps sp) (h : k ≤ k') : Cl P w K mg base k' x ps sp := by
  obtain ⟨f, fd, F, b, m, kp⟩ := c.ex
  exact ⟨f, fd, ⟨F.len, fun A outer s H args us vs Q E hr => F.run A outer s H args us vs Q E (hr.mono h)⟩, b, m, kp⟩
theorem ClX.up {P : Program} {w : World} {K : PySem.W.Frag} {mg : Str → Option Value} {base : Heap} {k k' : Nat} {x : Str} {ps : List Str} {sp : Sp} (c : ClX P w K mg base k x ps sp) (h : k ≤ k') : ClX P w K mg base k' x ps sp := by
  obtain ⟨f, fd, F, b, m, kp⟩ := c.ex
  exact ⟨f, fd, ⟨F.len, fun A outer s H args us vs Q E hr => F.run A outer s H args us vs Q E (hr.mono h)⟩, b, m, kp⟩
end My
namespace My
open PySem PySem.Spec PyProof.Rows L2
def topS (i : Nat) : Stmt := PySem.Challenge.pw_nodoubt_k83_whole_right_words_read.main.body.getD i (.Pass ⟨0, 0, 0, 0⟩)
abbrev s__wall : Stmt := topS 0
abbrev s_steps_of : Stmt := topS 8
abbrev s__ends_of : Stmt := topS 9
abbrev s__ends_of_leaf : Stmt := topS 10
abbrev s__ends_of_join : Stmt := topS 11
abbrev s__ends_of_or : Stmt := topS 12
abbrev s__link : Stmt := topS 13
abbrev s_by_letter : Stmt := topS 14
abbrev s_is_expression : Stmt := topS 18
abbrev s_is_letter : Stmt := topS 19
abbrev s_check_expression : Stmt := topS 20
abbrev s_sizes_within : Stmt := topS 21
abbrev s__parts_of : Stmt := topS 22
abbrev s__is_row : Stmt := topS 23
abbrev s__begins_with : Stmt := topS 24
abbrev s_has_conflict : Stmt := topS 27
abbrev s__nodes : Stmt := topS 28
abbrev s__near : Stmt := topS 29
abbrev s__pairs_behind : Stmt := topS 30
abbrev s_sure_steps_of : Stmt := topS 33
abbrev s_is_command : Stmt := topS 34
abbrev s_places_behind_command : Stmt := topS 35
abbrev s_near_places : Stmt := topS 36
abbrev s__place_of : Stmt := topS 37
abbrev s_can_end : Stmt := topS 38
abbrev s__law_stream : Stmt := topS 42
abbrev s__law_next : Stmt := topS 43
abbrev s__law_is_integer : Stmt := topS 44
abbrev s__law_equal : Stmt := topS 45
abbrev s__law_made : Stmt := topS 46
abbrev s__law_letters : Stmt := topS 47
abbrev s__law_joined : Stmt := topS 48
abbrev s__law_tables : Stmt := topS 49
abbrev s__law_near : Stmt := topS 50
abbrev s__law_is_sure : Stmt := topS 51
abbrev s__law_sure : Stmt := topS 52
abbrev s__law_may_end : Stmt := topS 53
abbrev s__law_markings : Stmt := topS 54
abbrev s__law_word : Stmt := topS 55
abbrev s__law_read : Stmt := topS 56
abbrev s_law : Stmt := topS 57
abbrev s_BadValue___init__ : Stmt := inClass (topS 3) 0
abbrev s_TooLarge___init__ : Stmt := inClass (topS 4) 0
abbrev s_NotPossible___init__ : Stmt := inClass (topS 5) 0
abbrev s_Steps___init__ : Stmt := inClass (topS 7) 0
abbrev s_Reader___init__ : Stmt := inClass (topS 40) 0
abbrev s_Reader_act : Stmt := inClass (topS 40) 1
abbrev s_Reader_undo : Stmt := inClass (topS 40) 2
abbrev s_Reader_word : Stmt := inClass (topS 40) 3
abbrev s_Reader_places : Stmt := inClass (topS 40) 4
abbrev s_Reader_journal : Stmt := inClass (topS 40) 5
abbrev s_Reader_may_follow : Stmt := inClass (topS 40) 6
abbrev s_Reader_may_end : Stmt := inClass (topS 40) 7
abbrev s_Reader_first_rest : Stmt := inClass (topS 40) 8
abbrev s_Reader_records : Stmt := inClass (topS 40) 9
abbrev s_Reader_twin : Stmt := inClass (topS 40) 10
theorem boot_isinstance : bootBuiltins "isinstance" = some (.builtin "isinstance") := by decide +kernel
theorem boot_all : bootBuiltins "all" = some (.builtin "all") := by decide +kernel
theorem boot_any : bootBuiltins "any" = some (.builtin "any") := by decide +kernel
theorem boot_sum : bootBuiltins "sum" = some (.builtin "sum") := by decide +kernel
theorem boot_len : bootBuiltins "len" = some (.builtin "len") := by decide +kernel
theorem boot_abs : bootBuiltins "abs" = some (.builtin "abs") := by decide +kernel
theorem boot_min : bootBuiltins "min" = some (.builtin "min") := by decide +kernel
theorem boot_max : bootBuiltins "max" = some (.builtin "max") := by decide +kernel
theorem boot_int : bootBuiltins "int" = some (.type "int") := by decide +kernel
theorem boot_str : bootBuiltins "str" = some (.type "str") := by decide +kernel
theorem boot_bool : bootBuiltins "bool" = some (.type "bool") := by decide +kernel
theorem boot_list : bootBuiltins "list" = some (.type "list") := by decide +kernel
theorem boot_tuple : bootBuiltins "tuple" = some (.type "tuple") := by decide +kernel
/-- the built-ins' names as the module leaves them, its constants -/
structure Bt (K : PySem.W.Frag) (mg : Str → Option Value) (a_BOUNDS a_LONG_BOUNDS : Addr) (tL tM : Tok) : Prop where
  b_ValueError : mg "ValueError" = none
  b_abs : mg "abs" = none
  b_all : mg "all" = none
  b_any : mg "any" = none
  b_bool : mg "bool" = none
  b_enumerate : mg "enumerate" = none
  b_int : mg "int" = none
  b_isinstance : mg "isinstance" = none
  b_len : mg "len" = none
  b_list : mg "list" = none
  b_max : mg "max" = none
  b_range : mg "range" = none
  b_sorted : mg "sorted" = none
  b_str : mg "str" = none
  b_super : mg "super" = none
  b_tuple : mg "tuple" = none
  g_LETTERS : mg "LETTERS" = some (.str "abcd" tL)
  g_BOUNDS : mg "BOUNDS" = some (.ref a_BOUNDS)
  tE : ∀ H : Hp, SqT K H a_BOUNDS [.int 8, .int 6, .int 24]
  e_BEGIN : ∃ t, mg "BEGIN" = some (.int (-1) t)
  e_MOST_COMMANDS : ∃ t, mg "MOST_COMMANDS" = some (.int 20 t)
theorem Bt.g_MOST_COMMANDS {K : PySem.W.Frag} {mg : Str → Option Value} {a_BOUNDS a_LONG_BOUNDS : Addr} {tL tM : Tok} (B : Bt K mg a_BOUNDS a_LONG_BOUNDS tL tM) : mg "MOST_COMMANDS" = some (.int 20 B.e_MOST_COMMANDS.choose) := B.e_MOST_COMMANDS.choose_spec
section
variable {P : Program} {w : World} {K : PySem.W.Frag} {mg : Str → Option Value} {base : Heap} {a_BOUNDS a_LONG_BOUNDS : Addr} {tL tM : Tok}
abbrev N__law_stream : List Str := ["_law_script"]
theorem sc__law_stream : FnScope ["_law_script"] ["_law_script"] (defScope s__law_stream) := ⟨rfl, rfl, rfl, by decide +kernel, rfl, by decide +kernel, by decide +kernel⟩
theorem ok_stream {f : Addr} {fd : FuncData} (B : Bt K mg a_BOUNDS a_LONG_BOUNDS tL tM) (D : Df K mg "_law_stream" s__law_stream ["_law_script"] f fd) : FnOk P w K mg base CX0 1 f fd ["_law_script"] (spStream K) := by
  refine D.F.ok sc__law_stream (fun vs H Q E h => ?_) (fun cdv A outer s H vs Q E hr h => ?_)
  · obtain ⟨a, ns, rfl, _⟩ := h
    rfl
  obtain ⟨a, ns, rfl, hS, h63, q⟩ := h
  refine ⟨_, (pss_one (ps_ret (pe_lst (pa_cons (pe_callTy call_list_of rfl B.b_list boot_list (pa_cons (pv 0) pa_nil)) (pa_cons pe_int (pa_cons pe_int pa_nil)))))), ?_⟩
  refine ⟨_, rfl, a, _, rfl, .inl hS, fun l hl => ⟨by show 3 ≤ sizeLine; decide, fun p hp => ?_⟩⟩
  have n : l ≠ p := fun e => by
    rw [← e, upd_same] at hp
    cases hp
  exact q p _ ((same_upd hl).trans (same_upd hp)) ((same_upd hl).free hp) ⟨l, 0, 0, ns, upd_same, by rw [upd_ne n]; exact upd_same, n, Int.le_refl 0⟩
abbrev N__law_next : List Str := ["_law_stream_here", "_law_many", "_law_k", "_law_cell", "_law_digit"]
theorem sc__law_next : FnScope ["_law_stream_here", "_law_many", "_law_k", "_law_cell", "_law_digit"] ["_law_stream_here", "_law_many"] (defScope s__law_next) := ⟨rfl, rfl, rfl, by decide +kernel, rfl, by decide +kernel, by decide +kernel⟩
theorem ok_next {f : Addr} {fd : FuncData} (B : Bt K mg a_BOUNDS a_LONG_BOUNDS tL tM) (D : Df K mg "_law_next" s__law_next ["_law_stream_here", "_law_many"] f fd) : FnOk P w K mg base CX0 1 f fd ["_law_stream_here", "_law_many"] spNext := by
  refine D.F.ok sc__law_next (fun vs H Q E h => ?_) (fun cdv A outer s H vs Q E hr h => ?_)
  · obtain ⟨a, m, rfl, _⟩ := h
    rfl
  obtain ⟨a, m, rfl, hS, hm0, hm1, q⟩ := h
  obtain ⟨l, c, k, ns, h1, h2, h3, h4⟩ := id hS
  refine ⟨_, (C8.pss_cut (ps_if (pt_cmpR op_eq (pe_ix (r := rIxL K) ix_list (pv 0) pe_int (fun _ _ => rfl)) pe_int (nomark _)) (pss_cons (ps_set (i := 2) sc__law_next.nd rfl (Or.inl rfl) (pe_ix (r := rIxL K) ix_list (pv 0) pe_int (fun _ _ => rfl)))
    (pss_cons (ps_set (i := 3) sc__law_next.nd rfl (Or.inl rfl) (pe_op op_add pe_int (pv 2)))
    (C8.pss_cut (ps_if (pt_cmpR op_lt (pv 2) (pe_callB call_len rfl B.b_len boot_len (pa_cons (pe_ix (r := rIxL K) ix_list (pv 0) pe_int (fun _ _ => rfl)) pa_nil)) (nomark _)) (pss_one (ps_set (i := 3) sc__law_next.nd rfl (Or.inl rfl) (pe_callB call_abs rfl B.b_abs boot_abs (pa_cons (pe_ix (r := rIxL K) ix_list (pe_ix (r := rIxL K) ix_list (pv 0) pe_int (fun _ _ => rfl)) (pv 2) (fun _ _ => rfl)) pa_nil)))) pss_nil)
    (C8.pss_cut (ps_if (pt_cmpR op_lt (pv 3) (pe_op op_pow pe_int pe_int) (nomark _)) (pss_cons (ps_set (i := 3) sc__law_next.nd rfl (Or.inl rfl) (pe_op op_mod (pe_callTy call_int1 rfl B.b_int boot_int (pa_cons (pe_op op_add (pe_op op_add (pe_op op_mul (pv 3) pe_int) (pe_op op_mul (pv 2) pe_int)) pe_int) pa_nil)) pe_int))
    (pss_one (ps_set (i := 3) sc__law_next.nd rfl (Or.inl rfl) (pe_op op_add (pe_op op_mul (pe_op op_mod (pe_callTy call_int1 rfl B.b_int boot_int (pa_cons (pe_op op_add (pe_op op_mul (pv 3) pe_int) pe_int) pa_nil)) pe_int) pe_int) (pv 3))))) pss_nil)
    (pss_cons (ps_asg (pv 3) (pg_sub (pv 0) pe_int set_list))
    (pss_one (ps_asg (pe_op op_add (pv 2) pe_int) (pg_sub (pv 0) pe_int set_list)))))))) pss_nil)
    (pss_cons (ps_set (i := 4) sc__law_next.nd rfl (Or.inl rfl) (pe_op op_mod (pe_callTy call_int1 rfl B.b_int boot_int (pa_cons (pe_ix (r := rIxL K) ix_list (pv 0) pe_int (fun _ _ => rfl)) pa_nil)) (pv 1)))
    (pss_cons (ps_asg (pe_op op_fdiv (pe_ix (r := rIxL K) ix_list (pv 0) pe_int (fun _ _ => rfl)) (pv 1)) (pg_sub (pv 0) pe_int set_list))
    (pss_one (ps_ret (pv 4)))))), ?_⟩
  have m0 : ¬ m = 0 := by omega
  have at0 : ∀ (x y z : V), atI [x, y, z] 0 = some x := fun x y z => rfl
  have at1 : ∀ (x y z : V), atI [x, y, z] 1 = some y := fun x y z => rfl
  have at2 : ∀ (x y z : V), atI [x, y, z] 2 = some z := fun x y z => rfl
  refine ⟨fun σ' H' => ∃ kk cc c k, σ' = [some (.ref a), some (.int m), kk, cc, none] ∧ StrmW H' a l c k ns ∧ Keep a H H', ?_, ?_⟩
  · refine ⟨_, rfl, a, _, _, _, rfl, rfl, SqL.of h1, at1 _ _ _, rfl, _, rfl, ite2 (fun e => ?_) (fun e => ?_)⟩
    · -- a new cell
      refine ⟨_, rfl, a, _, _, _, rfl, rfl, SqL.of h1, at2 _ _ _, ?_⟩
      refine ⟨_, rfl, _, _, rfl, rfl, ?_⟩
      refine ⟨fun σ' H' => ∃ cc : Int, σ' = [some (.ref a), some (.int m), some (.int k), some (.int cc), none] ∧ H' = H, ?_, ?_⟩
      · refine ⟨_, rfl, _, rfl, a, _, _, _, rfl, rfl, SqL.of h1, at0 _ _ _, _, _, rfl, .inl ⟨_, SqL.of h2, rfl⟩, _, _, rfl, rfl, _, rfl, ite2 (fun e2 => ?_) (fun e2 => ?_)⟩
        · have e3 : k < ((ns.map V.int).length : Int) := of_decide_eq_true e2
          rw [List.length_map] at e3
          have hk : k.toNat < ns.length := by omega
          refine ⟨_, rfl, a, _, _, _, rfl, rfl, SqL.of h1, at0 _ _ _, _, rfl, l, _, k, .int ns[k.toNat], rfl, rfl, SqL.of h2, at_of (j := k.toNat) (by omega) (by rw [List.getElem?_map, List.getElem?_eq_getElem hk] <;> rfl), _, rfl, ?_⟩
          exact ⟨_, rfl, rfl⟩
        · exact ⟨_, rfl, rfl⟩
      · rintro σ' H' ⟨cc, rfl, rfl⟩
        refine ⟨fun σ' H'' => ∃ cc : Int, σ' = [some (.ref a), some (.int m), some (.int k), some (.int cc), none] ∧ H'' = H', ?_, ?_⟩
        · refine ⟨_, rfl, _, _, rfl, rfl, ⟨by decide, by decide, by decide⟩, _, _, rfl, rfl, _, rfl, ite2 (fun e2 => ?_) (fun e2 => ?_)⟩
          · refine ⟨_, rfl, _, _, rfl, rfl, .inr ⟨by decide, by decide⟩, _, rfl, _, _, rfl, rfl, .inr ⟨by decide, by decide⟩, _, _, rfl, rfl, _, _, rfl, rfl, .inl ⟨_, rfl, _, _, rfl, rfl, (by show (0 : Int) < 2147483647; decide), ?_⟩⟩
            refine ⟨_, rfl, _, _, rfl, rfl, .inr ⟨by decide, by decide⟩, _, _, rfl, rfl, .inl ⟨_, rfl, _, _, rfl, rfl, (by show (0 : Int) < 2147483647; decide), _, _, rfl, rfl, .inr ⟨by decide, by decide⟩, _, rfl, _, _, rfl, rfl, ?_⟩⟩
            exact ⟨_, rfl, rfl⟩
          · exact ⟨_, rfl, rfl⟩
        · rintro σ' H'' ⟨cc, rfl, rfl⟩
          refine ⟨_, rfl, _, rfl, a, _, _, _, rfl, rfl, h1, rfl, ?_⟩
          have u1 : ([.ref l, .int c, .int k] : List V).set 1 (.int cc) = [.ref l, .int cc, .int k] := rfl
          refine ⟨_, rfl, _, _, rfl, rfl, _, rfl, a, _, _, _, rfl, rfl, upd_same, rfl, ?_⟩
          exact ⟨_, _, cc, k + 1, rfl, ⟨upd_same, by rw [upd_ne h3, upd_ne h3]; exact h2, h3, by omega⟩, Keep.store.trans Keep.store⟩
    · exact ⟨_, _, c, k, rfl, ⟨h1, h2, h3, h4⟩, Keep.refl a H⟩
  · rintro σ' H' ⟨kk, cc, c, k, rfl, ⟨g1, g2, g3, g4⟩, kp⟩
    refine ⟨_, rfl, a, _, _, _, rfl, rfl, SqL.of g1, at1 _ _ _, .inl ⟨_, rfl, _, rfl, _, _, rfl, rfl, hm0, ?_⟩⟩
    refine ⟨_, rfl, a, _, _, _, rfl, rfl, SqL.of g1, at1 _ _ _, _, rfl, _, _, rfl, rfl, ⟨hm0, by omega⟩, _, rfl, a, _, _, _, rfl, rfl, g1, rfl, ?_⟩
    exact ⟨_, rfl, q _ _ (Int.emod_nonneg _ m0) (Int.emod_lt_of_pos _ hm0) ⟨kp.trans Keep.store, hS, fun l' c' k' ns' h' => by
      have e := h1.symm.trans h'.1
      cases e
      exact ⟨_, _, ns, upd_same, by rw [upd_ne g3]; exact g2, g3, g4⟩⟩⟩
end


/-! ### the looks at a datum -/
def spLetter : Sp := fun vs H Q _ => ∃ z : Str, vs = [.str z] ∧ z.length ≤ 1000 ∧ Q (.bl (isLet z)) H
def spBegins : Sp := fun vs H Q _ => ∃ v w d, vs = [v, .str w] ∧ Rep H v d ∧ headFlat d = true ∧ Q (.bl (begins w d)) H
def spIsRow : Sp := fun vs H Q _ => ∃ v w d, vs = [.str w, v] ∧ Rep H v d ∧ rowFlat d = true ∧ ∀ H', Same H H' → Q (.bl (rowOk w d)) H'
def PartsR (H : Hp) (r : V) : Option (List D) → Prop
  | none => r = .non
  | some ys => ∃ p vs, r = .ref p ∧ H p = some (.tup vs) ∧ Two (Rep H) vs ys
def spPartsOf : Sp := fun vs H Q _ => ∃ v d, vs = [v] ∧ Rep H v d ∧ Fl d ∧ ∀ r H', Same H H' → PartsR H' r (inner d) → Q r H'
def SizeR (H : Hp) (r : V) : Option Bnd → Prop
  | none => r = .non
  | some a => ∃ q, r = .ref q ∧ H q = some (.tup [.int a.1, .int a.2.1, .int a.2.2])
def spSizes (K : PySem.W.Frag) : Sp := fun vs H Q _ => ∃ (v : V) (d : D) (b : Addr) (B : Bnd), vs = [v, .ref b] ∧ Rep H v d ∧ Fl d ∧ d.size ≤ 1000000 ∧ SqT K H b [.int B.1, .int B.2.1, .int B.2.2] ∧ ∀ r H', Same H H' → SizeR H' r (sizesOf B d) → Q r H'
def spIs (B : Bnd) : Sp := fun vs H Q _ => ∃ (v : V) (d : D), vs = [v] ∧ Rep H v d ∧ Fl d ∧ d.size ≤ 1000000 ∧ ∀ H', Same H H' → Q (.bl (sizesOf B d).isSome) H'
section
variable {P : Program} {w : World} {K : PySem.W.Frag} {mg : Str → Option Value} {base : Heap} {a_BOUNDS a_LONG_BOUNDS : Addr} {tL tM : Tok}
theorem abcd_in (c : Nat) : (c ∈ (Str.ofString "abcd").cps.toList) ↔ 97 ≤ c ∧ c ≤ 100 := by
  have e : (Str.ofString "abcd").cps.toList = [97, 98, 99, 100] := by decide +kernel
  rw [e]
  simp
  omega
theorem isLet_one (c : Nat) : isLet ⟨#[c]⟩ = decide (c ∈ (Str.ofString "abcd").cps.toList) := by
  have e : isLet ⟨#[c]⟩ = (decide (97 ≤ c) && decide (c ≤ 100)) := rfl
  rw [e, ← Bool.decide_and]
  exact decide_eq_decide.mpr (abcd_in c).symm
abbrev N_is_letter : List Str := ["value"]
theorem sc_is_letter : FnScope ["value"] ["value"] (defScope s_is_letter) := ⟨rfl, rfl, rfl, by decide +kernel, rfl, by decide +kernel, by decide +kernel⟩
theorem ok_letter {f : Addr} {fd : FuncData} (B : Bt K mg a_BOUNDS a_LONG_BOUNDS tL tM) (D : Df K mg "is_letter" s_is_letter ["value"] f fd) : FnOk P w K mg base CX0 1 f fd ["value"] spLetter := by
  refine D.F.ok sc_is_letter (fun vs H Q E h => ?_) (fun cdv A outer s H vs Q E hr h => ?_)
  · obtain ⟨z, rfl, _⟩ := h
    rfl
  obtain ⟨z, rfl, hz, q⟩ := h
  refine ⟨_, (pss_one (ps_ret (pe_and (pe_callB call_isi rfl B.b_isinstance boot_isinstance (pa_cons (pv 0) (pa_cons (pe_bltn (v := .ty "str") rfl B.b_str boot_str rfl) pa_nil))) (pe_and (pe_cmpR op_eq (pe_callB call_len rfl B.b_len boot_len (pa_cons (pv 0) pa_nil)) pe_int (nomark _)) (pe_one (pe_cmpR op_in_sign (pv 0) (pe_glob (v := .str "abcd") rfl B.g_LETTERS ⟨_, rfl⟩) rfl)))))), ?_⟩
  have T1 : TyX K H (.str z) (.type "str") := .base (.str z)
  refine ⟨_, rfl, _, _, _, _, _, rfl, .ty _, T1, kit_ty (r := true) (by decide +kernel), _, rfl, iteT ?_⟩
  refine ⟨_, rfl, _, _, rfl, ⟨Nat.le_trans hz (by decide), rfl⟩, rfl, _, rfl, ite2 (fun e => ?_) (fun e => ?_)⟩
  · have e1 : V.int (z.length : Int) = V.int 1 := of_decide_eq_true e
    have e2 : z.cps.size = 1 := by
      have e3 : (z.length : Int) = 1 := V.int.inj e1
      have e4 : z.length = z.cps.size := rfl
      omega
    obtain ⟨⟨cs⟩⟩ := z
    match cs, e2 with
    | [c], _ =>
      refine ⟨_, rfl, _, _, rfl, rfl, ?_⟩
      rw [isLet_one] at q
      exact q
  · have e2 : isLet z = false := by
      unfold isLet
      split
      · rename_i c hc
        exfalso
        apply e
        refine decide_eq_true (congrArg V.int ?_)
        have : z.cps.size = 1 := by rw [← Array.length_toList, hc] <;> rfl
        show ((z.cps.size : Nat) : Int) = 1
        omega
      · rfl
    rw [e2] at q
    exact q
abbrev N__begins_with : List Str := ["value", "word"]
theorem sc__begins_with : FnScope ["value", "word"] ["value", "word"] (defScope s__begins_with) := ⟨rfl, rfl, rfl, by decide +kernel, rfl, by decide +kernel, by decide +kernel⟩
theorem ok_begins {f : Addr} {fd : FuncData} (B : Bt K mg a_BOUNDS a_LONG_BOUNDS tL tM) (D : Df K mg "_begins_with" s__begins_with ["value", "word"] f fd) : FnOk P w K mg base CX0 1 f fd ["value", "word"] spBegins := by
  refine D.F.ok sc__begins_with (fun vs H Q E h => ?_) (fun cdv A outer s H vs Q E hr h => ?_)
  · obtain ⟨v, w, d, rfl, _⟩ := h
    rfl
  obtain ⟨v, w, d, rfl, hR, hF, q⟩ := h
  refine ⟨_, (pss_one (ps_ret (pe_and (pe_callB call_isi rfl B.b_isinstance boot_isinstance (pa_cons (pv 0) (pa_cons (pe_bltn (v := .ty "tuple") rfl B.b_tuple boot_tuple rfl) pa_nil))) (pe_and (pe_cmpR op_gt (pe_callB call_len rfl B.b_len boot_len (pa_cons (pv 0) pa_nil)) pe_int (nomark _)) (pe_one (pe_cmpR op_eq (pe_ix (r := rIxT K) ix_tup (pv 0) pe_int (fun _ _ => rfl)) (pv 1) (nomark _))))))), ?_⟩
  obtain ⟨t, ht, _, k2⟩ := hR.ty (K := K)
  refine ⟨_, rfl, _, _, _, _, _, rfl, .ty _, ht, k2, _, rfl, ite2 (fun e => ?_) (fun e => ?_)⟩
  · cases d with
    | tup ds =>
      obtain ⟨p, xs, rfl, hp, hz, hX⟩ := hR.untup
      refine ⟨_, rfl, _, _, rfl, .inr ⟨_, SqT.of hp, rfl⟩, _, _, rfl, rfl, _, rfl, ite2 (fun e3 => ?_) (fun e3 => ?_)⟩
      · have e1 : (0 : Int) < ((xs.length : Nat) : Int) := of_decide_eq_true e3
        cases hX with
        | nil => exact absurd e1 (by decide)
        | @cons x y xs ys hxy ht =>
          refine ⟨_, rfl, p, _, 0, x, rfl, rfl, SqT.of hp, at_zero, _, rfl, ?_⟩
          cases hxy with
          | @str z hz =>
            refine ⟨rfl, ?_⟩
            have q1 : decide (V.str z = V.str w) = begins w (.tup (.str z :: ys)) := by
              rw [begins_tup]
              exact decide_eq_decide.mpr ⟨fun h => by cases h; rfl, fun h => by rw [h]⟩
            rw [q1]
            exact q
          | non => exact ⟨rfl, q⟩
          | bl b => exact ⟨rfl, q⟩
          | int i => exact ⟨rfl, q⟩
          | tup _ _ _ _ => exact absurd hF Bool.false_ne_true
          | lst _ => exact absurd hF Bool.false_ne_true
      · cases hX with
        | nil => exact q
        | @cons x y xs ys hxy ht =>
          exfalso
          apply e3
          refine decide_eq_true ?_
          show (0 : Int) < ((xs.length + 1 : Nat) : Int)
          omega
    | str z => cases e
    | lst => cases e
    | flat => cases e
  · cases d with
    | tup ds => exact absurd rfl e
    | str z => exact q
    | lst => exact q
    | flat => exact q
abbrev N__is_row : List Str := ["word", "value", "part"]
theorem sc__is_row : FnScope ["word", "value", "part"] ["word", "value"] (defScope s__is_row) := ⟨rfl, rfl, rfl, by decide +kernel, rfl, by decide +kernel, by decide +kernel⟩
theorem ok_isrow {f : Addr} {fd : FuncData} (B : Bt K mg a_BOUNDS a_LONG_BOUNDS tL tM) (D : Df K mg "_is_row" s__is_row ["word", "value"] f fd) (G_begins_with : Cl P w K mg base 1 "_begins_with" ["value", "word"] spBegins) : FnOk P w K mg base CX0 2 f fd ["word", "value"] spIsRow := by
  refine D.F.ok sc__is_row (fun vs H Q E h => ?_) (fun cdv A outer s H vs Q E hr h => ?_)
  · obtain ⟨v, w, d, rfl, _⟩ := h
    rfl
  obtain ⟨v, w, d, rfl, hR, hF, q⟩ := h
  refine ⟨_, (pss_cons (ps_if (PW.pt (pw_or (pt_not (pt_val (pe_callB call_isi rfl B.b_isinstance boot_isinstance (pa_cons (pv 1) (pa_cons (pe_bltn (v := .ty "tuple") rfl B.b_tuple boot_tuple rfl) pa_nil))))) (pw_or1 (pt_cmpR op_lt (pe_callB call_len rfl B.b_len boot_len (pa_cons (pv 1) pa_nil)) pe_int (nomark _))))) (pss_one (ps_ret pe_bl)) pss_nil)
    (pss_one (ps_ret (pe_not (pe_callB (cr_any rfl) rfl B.b_any boot_any (pa_cons (pe_lc (own := [("part", 2)]) (g := gName 2) (tt := tYes) rfl sc__is_row.nd (pi_tup (pv 1)) (blkOk_by (N := N__is_row) (sc := defScope s__is_row) (by decide +kernel)) (fun _ _ _ _ _ => pg_name (i := 2) sc__is_row.nd rfl (Or.inl rfl)) (fun _ _ _ _ _ => pts_nil) (fun _ _ _ _ _ => (pe_cl G_begins_with (hr.mono (by omega)) rfl (pa_cons (pv 2) (pa_cons (pv 0) pa_nil))))) pa_nil)))))), ?_⟩
  obtain ⟨t, ht, _, k2⟩ := hR.ty (K := K)
  cases d with
  | str z => exact ⟨_, rfl, _, _, _, _, _, rfl, .ty _, ht, k2, _, rfl, iteT (iteT (q _ (Same.refl _)))⟩
  | lst => exact ⟨_, rfl, _, _, _, _, _, rfl, .ty _, ht, k2, _, rfl, iteT (iteT (q _ (Same.refl _)))⟩
  | flat => exact ⟨_, rfl, _, _, _, _, _, rfl, .ty _, ht, k2, _, rfl, iteT (iteT (q _ (Same.refl _)))⟩
  | tup ds =>
    obtain ⟨p, xs, rfl, hp, hz, hX⟩ := hR.untup
    have hl := hX.len
    refine ⟨_, rfl, _, _, _, _, _, rfl, .ty _, ht, k2, _, rfl, iteF ?_⟩
    refine ⟨_, rfl, _, _, rfl, .inr ⟨_, SqT.of hp, rfl⟩, _, _, rfl, rfl, _, rfl, ite2 (fun e => ?_) (fun e => ?_)⟩
    · have e1 : ((xs.length : Nat) : Int) < 2 := of_decide_eq_true e
      have e2 : rowOk w (.tup ds) = false := by
        rw [rowOk_tup, decide_eq_false (by omega)]
        rfl
      rw [e2] at q
      exact q _ (Same.refl _)
    · have e1 : ¬ ((xs.length : Nat) : Int) < 2 := fun h => e (decide_eq_true h)
      have e2 : rowOk w (.tup ds) = !(ds.any (begins w)) := by
        rw [rowOk_tup, decide_eq_true (by omega)]
        rfl
      rw [e2] at q
      refine ⟨_, rfl, p, rfl, ⟨_, SqT.of hp⟩, fun L hL => ?_⟩
      refine lc_tup (K := K) (a := p) (xs := xs) (fun i H' => Same H H' ∧ H' L = some (.lst (((ds.take i).map (begins w)).map V.bl))) ⟨same_upd hL, upd_same⟩ (fun i H' _ h => SqT.of (h.1 _ _ hp)) (fun i x H' hx h => ?_) (fun H' h => ?_)
      · obtain ⟨d, hd, hxd⟩ := hX.get hx
        have hd' : headFlat d = true := by
          have : ds.all headFlat = true := hF
          exact List.all_eq_true.mp this d (List.mem_of_getElem? hd)
        refine ⟨rfl, tyes ?_⟩
        refine ⟨_, rfl, _, rfl, x, w, d, rfl, hxd.pers (Pers.same h.1), hd', _, h.2, ?_, ?_, ?_⟩
        · rw [List.length_map, List.length_map, List.length_take]
          have : i < ds.length := (List.getElem?_eq_some_iff.mp hd).1
          exact Nat.lt_of_le_of_lt (Nat.min_le_right _ _) (Nat.lt_of_le_of_lt (hl ▸ hz) (by decide))
        · exact fun b o e => by rw [upd_ne (ne_of_none e hL)]; exact h.1 b o e
        · rw [upd_same, List.take_add_one, hd, List.map_append, List.map_append]
          rfl
      · obtain ⟨h1, h2⟩ := h
        rw [hl, List.take_length] at h2
        refine ⟨L, _, rfl, SqL.of h2, _, rfl, ?_⟩
        have e3 : ((ds.map (begins w)).any id) = ds.any (begins w) := by
          rw [List.any_map]
          rfl
        rw [e3]
        exact q _ h1
abbrev N__parts_of : List Str := ["value", "word", "inner"]
theorem sc__parts_of : FnScope ["value", "word", "inner"] ["value"] (defScope s__parts_of) := ⟨rfl, rfl, rfl, by decide +kernel, rfl, by decide +kernel, by decide +kernel⟩
theorem ok_parts {f : Addr} {fd : FuncData} (B : Bt K mg a_BOUNDS a_LONG_BOUNDS tL tM) (D : Df K mg "_parts_of" s__parts_of ["value"] f fd) (Gis_letter : Cl P w K mg base 1 "is_letter" ["value"] spLetter) (G_is_row : Cl P w K mg base 2 "_is_row" ["word", "value"] spIsRow) : FnOk P w K mg base CX0 3 f fd ["value"] spPartsOf := by
  refine D.F.ok sc__parts_of (fun vs H Q E h => ?_) (fun cdv A outer s H vs Q E hr h => ?_)
  · obtain ⟨v, d, rfl, _⟩ := h
    rfl
  obtain ⟨v, d, rfl, hR, hF, q⟩ := h
  refine ⟨_, (pss_cons (ps_if (pt_val (pe_callB call_isi rfl B.b_isinstance boot_isinstance (pa_cons (pv 0) (pa_cons (pe_bltn (v := .ty "str") rfl B.b_str boot_str rfl) pa_nil)))) (pss_one (ps_ret (pe_ifExp (PW.pt (pw_or (pt_cmpR op_eq (pv 0) pe_str (nomark _)) (pw_or1 (pt_val (pe_cl Gis_letter (hr.mono (by omega)) rfl (pa_cons (pv 0) pa_nil)))))) (pe_tup pa_nil) pe_non))) pss_nil)
    (pss_cons (ps_if (PW.pt (pw_or (pt_not (pt_val (pe_callB call_isi rfl B.b_isinstance boot_isinstance (pa_cons (pv 0) (pa_cons (pe_bltn (v := .ty "tuple") rfl B.b_tuple boot_tuple rfl) pa_nil))))) (pw_or (pt_cmpR op_ne (pe_callB call_len rfl B.b_len boot_len (pa_cons (pv 0) pa_nil)) pe_int (nomark _)) (pw_or1 (pt_not (pt_val (pe_callB call_isi rfl B.b_isinstance boot_isinstance (pa_cons (pe_ix (r := rIxT K) ix_tup (pv 0) pe_int (fun _ _ => rfl)) (pa_cons (pe_bltn (v := .ty "str") rfl B.b_str boot_str rfl) pa_nil))))))))) (pss_one (ps_ret pe_non)) pss_nil)
    (pss_cons (ps_asg (pv 0) (pg_tup rfl (pgs_cons (pg_name (i := 1) sc__parts_of.nd rfl (Or.inl rfl)) (pgs_cons (pg_name (i := 2) sc__parts_of.nd rfl (Or.inl rfl)) pgs_nil))))
    (pss_cons (ps_if (PW.pt (pw_or (pt_cmpR op_eq (pv 1) pe_str (nomark _)) (pw_or1 (pt_cmpR op_eq (pv 1) pe_str (nomark _))))) (pss_one (ps_ret (pe_tup (pa_cons (pv 2) pa_nil)))) pss_nil)
    (pss_cons (ps_if (PW.pt (pw_and (PW.pt (pw_or (pt_cmpR op_eq (pv 1) pe_str (nomark _)) (pw_or1 (pt_cmpR op_eq (pv 1) pe_str (nomark _))))) (pw_and1 (pt_val (pe_cl G_is_row (hr.mono (by omega)) rfl (pa_cons (pv 1) (pa_cons (pv 2) pa_nil))))))) (pss_one (ps_ret (pv 2))) pss_nil)
    (pss_one (ps_ret pe_non))))))), ?_⟩
  obtain ⟨t, ht, k1, k2⟩ := hR.ty (K := K)
  refine ⟨_, rfl, _, _, _, _, _, rfl, .ty _, ht, k1, _, rfl, ite2 (fun e => ?_) (fun e => ?_)⟩
  · cases d with
    | tup ds => cases e
    | lst => cases e
    | flat => cases e
    | str z =>
      cases hR with
      | str hz =>
        have yes : (z = sNo ∨ isLet z = true) → ∀ p, H p = none → Q (.ref p) (upd H p (.tup [])) := fun c p hp => q _ _ (same_upd hp) (by
          rw [inner, if_pos c]
          exact ⟨p, [], rfl, upd_same, .nil⟩)
        refine ⟨_, rfl, rfl, _, rfl, ite2 (fun e1 => iteT ?_) (fun e1 => ?_)⟩
        · exact ⟨by decide, yes (.inl (vstr e1))⟩
        · refine ⟨_, rfl, z, rfl, hz, _, rfl, ite2 (fun e2 => ?_) (fun e2 => ?_)⟩
          · exact ⟨by decide, yes (.inr e2)⟩
          · refine q _ _ (Same.refl _) ?_
            rw [inner, if_neg fun c => c.elim (vstrN e1) e2]
            rfl
  · cases d with
    | str z => exact absurd rfl e
    | lst => exact ⟨_, rfl, _, _, _, _, _, rfl, .ty _, ht, k2, _, rfl, iteT (iteT (q _ _ (Same.refl _) rfl))⟩
    | flat => exact ⟨_, rfl, _, _, _, _, _, rfl, .ty _, ht, k2, _, rfl, iteT (iteT (q _ _ (Same.refl _) rfl))⟩
    | tup ds =>
      obtain ⟨p, xs, rfl, hp, hz, hX⟩ := hR.untup
      have hl := hX.len
      have none_ : inner (.tup ds) = none → Q .non H := fun c => q _ _ (Same.refl _) (by rw [c]; rfl)
      refine ⟨_, rfl, _, _, _, _, _, rfl, .ty _, ht, k2, _, rfl, iteF ?_⟩
      refine ⟨_, rfl, _, _, rfl, .inr ⟨_, SqT.of hp, rfl⟩, rfl, _, rfl, ite2 (fun e => ?_) (fun e => ?_)⟩
      · have e1 : ¬ xs.length = 2 := by
          intro c
          rw [c] at e
          exact absurd e (by decide)
        refine iteT (none_ ?_)
        unfold inner
        split
        · rename_i h; cases h
        · rename_i h
          cases h
          exact absurd hl e1
        · rfl
      · have e1 : xs.length = 2 := by
          have e2 : ¬ ¬ ((xs.length : Nat) : Int) = 2 := fun c => e (by
            show (!decide (V.int ((xs.length : Nat) : Int) = V.int 2)) = true
            rw [decide_eq_false (fun z => c (V.int.inj z))]
            rfl)
          omega
        match xs, ds, hX, e1 with
        | [x, y], [dx, dy], hX, _ =>
          cases hX with
          | cons hx hX =>
          cases hX with
          | cons hy _ =>
          obtain ⟨tx, htx, kx, _⟩ := hx.ty (K := K)
          refine ⟨_, rfl, p, _, 0, x, rfl, rfl, SqT.of hp, at_zero, _, _, _, _, _, rfl, .ty _, htx, kx, _, rfl, ite2 (fun e => ?_) (fun e => ?_)⟩
          · refine none_ ?_
            cases dx with
            | str z => cases e
            | tup _ => rfl
            | lst => rfl
            | flat => rfl
          · cases dx with
            | tup _ => exact absurd rfl e
            | lst => exact absurd rfl e
            | flat => exact absurd rfl e
            | str w =>
              cases hx with
              | str hw =>
              refine ⟨_, rfl, p, _, rfl, SqT.of hp, rfl, _, _, rfl, _, _, rfl, rfl, ?_⟩
              have yes : (w = sMaybe ∨ w = sMany) → ∀ p, H p = none → Q (.ref p) (upd H p (.tup [y])) := fun c p hp => q _ _ (same_upd hp) (by
                rw [inner_pair, innerPair, if_pos c]
                exact ⟨p, [y], rfl, upd_same, .cons (hy.pers (Pers.new hp)) .nil⟩)
              refine ⟨_, rfl, rfl, _, rfl, ite2 (fun e1 => iteT ?_) (fun e1 => ?_)⟩
              · exact ⟨_, rfl, by show 1 ≤ sizeLine; decide, yes (.inl (vstr e1))⟩
              refine ⟨_, rfl, rfl, _, rfl, ite2 (fun e2 => ?_) (fun e2 => ?_)⟩
              · exact ⟨_, rfl, by show 1 ≤ sizeLine; decide, yes (.inr (vstr e2))⟩
              have no1 : ¬ (w = sMaybe ∨ w = sMany) := fun c => c.elim (vstrN e1) (vstrN e2)
              have hfl : w = sJoin ∨ w = sOr → rowFlat dy = true := fun c => by
                cases hF with
                | tup h _ => exact h _ _ rfl c
              have row : (w = sJoin ∨ w = sOr) → ∀ H', Same H H' → (rowOk w dy = true → Q y H') ∧ (¬ rowOk w dy = true → Q .non H') := fun c H' hs => ⟨fun r => q _ _ hs (by
                rw [inner_pair, innerPair, if_neg no1, if_pos ⟨c, r⟩]
                cases dy with
                | tup ds =>
                  obtain ⟨p, xs, rfl, hp, hz, hX⟩ := hy.untup
                  exact ⟨p, xs, rfl, hs _ _ hp, Rep.pers2 (Pers.same hs) hX⟩
                | str z => cases r
                | lst => cases r
                | flat => cases r), fun r => q _ _ hs (by rw [inner_pair, innerPair, if_neg no1, if_neg fun z => r z.2] <;> rfl)⟩
              refine ⟨_, rfl, rfl, _, rfl, ite2 (fun e3 => iteT ?_) (fun e3 => ?_)⟩
              · have c : w = sJoin ∨ w = sOr := .inl (vstr e3)
                refine ⟨_, rfl, _, rfl, y, w, dy, rfl, hy, hfl c, fun H' hs => ⟨_, rfl, ite2 (fun e4 => ?_) (fun e4 => ?_)⟩⟩
                · exact ⟨_, rfl, (row c H' hs).1 e4⟩
                · exact (row c H' hs).2 e4
              refine ⟨_, rfl, rfl, _, rfl, ite2 (fun e4 => ?_) (fun e4 => ?_)⟩
              · have c : w = sJoin ∨ w = sOr := .inr (vstr e4)
                refine ⟨_, rfl, _, rfl, y, w, dy, rfl, hy, hfl c, fun H' hs => ⟨_, rfl, ite2 (fun e4 => ?_) (fun e4 => ?_)⟩⟩
                · exact ⟨_, rfl, (row c H' hs).1 e4⟩
                · exact (row c H' hs).2 e4
              · refine iteF (none_ ?_)
                rw [inner_pair, innerPair, if_neg no1, if_neg fun z => z.1.elim (vstrN e3) (vstrN e4)]
def StkRep (H : Hp) (x : V) (p : D × Nat) : Prop := ∃ t y, x = .ref t ∧ H t = some (.tup [y, .int p.2]) ∧ Rep H y p.1
theorem StkRep.pers {H H' : Hp} (k : Pers H H') {x : V} {p : D × Nat} (h : StkRep H x p) : StkRep H' x p := by
  obtain ⟨t, y, rfl, h1, h2⟩ := h
  exact ⟨t, y, rfl, k.tup _ _ h1, h2.pers k⟩
theorem fl_inner {d : D} {ys : List D} (h : Fl d) (hi : inner d = some ys) : ∀ y ∈ ys, Fl y := by
  intro y hy
  unfold inner at hi
  split at hi
  · split at hi
    · cases hi; cases hy
    · cases hi
  · rename_i w z
    have hz : Fl z := by
      cases h with
      | tup _ k => exact k z (by simp)
    unfold innerPair at hi
    split at hi
    · cases hi
      rw [List.mem_singleton] at hy
      subst hy
      exact hz
    · split at hi
      · cases hz with
        | tup _ k => cases hi; exact k y hy
        | str => cases hi
        | lst => cases hi
        | flat => cases hi
      · cases hi
  · cases hi
theorem len_msr (st : List (D × Nat)) : st.length ≤ msr st := by
  induction st with
  | nil => exact Nat.le_refl _
  | cons p st ih =>
    have := size_pos p.1
    unfold msr at ih ⊢
    rw [List.map_cons, List.sum_cons, List.length_cons]
    omega
structure Loop (H : Hp) (B : Bnd) (d : D) (v : V) (b wt : Addr) (n : Nat) (st : List (D × Nat)) (a : Bnd) (σ : L2.St) (H' : Hp) : Prop where
  sl : ∃ x9 x10 x11, σ = [some v, some (.ref b), some (.int B.1), some (.int B.2.1), some (.int B.2.2), some (.int a.1), some (.int a.2.1), some (.int a.2.2), some (.ref wt), x9, x10, x11, none]
  same : Same H H'
  new : H wt = none
  stk : ∃ xs, H' wt = some (.lst xs) ∧ Two (StkRep H') xs st.reverse
  fl : ∀ p ∈ st, Fl p.1
  ms : msr st < n
  le : msr st ≤ d.size
  eq : look B n st a = sizesOf B d
abbrev N_sizes_within : List Str := ["value", "bounds", "most_places", "most_deep", "most_parts", "many_places", "deepest", "many_parts", "waiting", "part", "deep", "inner", "each"]
theorem sc_sizes_within : FnScope ["value", "bounds", "most_places", "most_deep", "most_parts", "many_places", "deepest", "many_parts", "waiting", "part", "deep", "inner", "each"] ["value", "bounds"] (defScope s_sizes_within) := ⟨rfl, rfl, rfl, by decide +kernel, rfl, by decide +kernel, by decide +kernel⟩
theorem ok_sizes {f : Addr} {fd : FuncData} (Bt : Bt K mg a_BOUNDS a_LONG_BOUNDS tL tM) (D : Df K mg "sizes_within" s_sizes_within ["value", "bounds"] f fd) (G_parts_of : Cl P w K mg base 3 "_parts_of" ["value"] spPartsOf) : FnOk P w K mg base CX0 4 f fd ["value", "bounds"] (spSizes K) := by
  refine D.F.ok sc_sizes_within (fun vs H Q E h => ?_) (fun cdv A outer s H vs Q E hr h => ?_)
  · obtain ⟨v, d, b, B, rfl, _⟩ := h
    rfl
  obtain ⟨v, d, b, ⟨b1, b2, b3⟩, rfl, hR, hF, hZ, hB, q⟩ := h
  have B := Bt
  refine ⟨_, (pss_cons (ps_asg (pv 1) (pg_tup rfl (pgs_cons (pg_name (i := 2) sc_sizes_within.nd rfl (Or.inl rfl)) (pgs_cons (pg_name (i := 3) sc_sizes_within.nd rfl (Or.inl rfl)) (pgs_cons (pg_name (i := 4) sc_sizes_within.nd rfl (Or.inl rfl)) pgs_nil)))))
    (pss_cons (ps_asg (pe_tup (pa_cons pe_int (pa_cons pe_int (pa_cons pe_int pa_nil)))) (pg_tup rfl (pgs_cons (pg_name (i := 5) sc_sizes_within.nd rfl (Or.inl rfl)) (pgs_cons (pg_name (i := 6) sc_sizes_within.nd rfl (Or.inl rfl)) (pgs_cons (pg_name (i := 7) sc_sizes_within.nd rfl (Or.inl rfl)) pgs_nil)))))
    (pss_cons (ps_set (i := 8) sc_sizes_within.nd rfl (Or.inl rfl) (pe_lst (pa_cons (pe_tup (pa_cons (pv 0) (pa_cons pe_int pa_nil))) pa_nil)))
    (pss_cons (ps_while PassesOwn.never (pt_truth (pv 8) (by intro _; rfl)) (pss_cons (ps_asg (pe_bm0 PySem.F.plainAttrs_list PySem.F.slot_list_pop PySem.F.type_list_pop mt_pop (pv 8)) (pg_tup rfl (pgs_cons (pg_name (i := 9) sc_sizes_within.nd rfl (Or.inl rfl)) (pgs_cons (pg_name (i := 10) sc_sizes_within.nd rfl (Or.inr rfl)) pgs_nil))))
    (pss_cons (ps_set (i := 11) sc_sizes_within.nd rfl (Or.inl rfl) (pe_cl G_parts_of (hr.mono (by omega)) rfl (pa_cons (pv 9) pa_nil)))
    (pss_cons (ps_if (pt_cmpR op_isN (pv 11) pe_non (nomark _)) (pss_one (ps_ret pe_non)) pss_nil)
    (C8.pss_cut (ps_if (pt_val (pe_callB call_isi rfl B.b_isinstance boot_isinstance (pa_cons (pv 9) (pa_cons (pe_bltn (v := .ty "str") rfl B.b_str boot_str rfl) pa_nil)))) (pss_one (ps_aug (i := 5) sc_sizes_within.nd rfl (Or.inl rfl) (pe_callB call_len rfl B.b_len boot_len (pa_cons (pv 9) pa_nil)) ip_add)) pss_nil)
    (pss_cons (ps_set (i := 6) sc_sizes_within.nd rfl (Or.inl rfl) (pe_callB (call_max2 rfl) rfl B.b_max boot_max (pa_cons (pv 6) (pa_cons (pv 10) pa_nil))))
    (pss_cons (ps_aug (i := 7) sc_sizes_within.nd rfl (Or.inl rfl) (pe_callB call_len rfl B.b_len boot_len (pa_cons (pv 11) pa_nil)) ip_add)
    (pss_cons (ps_if (PW.pt (pw_or (pt_cmpR op_gt (pv 5) (pv 2) (nomark _)) (pw_or (pt_cmpR op_gt (pv 6) (pv 3) (nomark _)) (pw_or1 (pt_cmpR op_gt (pv 7) (pv 4) (nomark _)))))) (pss_one (ps_ret pe_non)) pss_nil)
    (pss_one (ps_expr (pe_bm PySem.F.plainAttrs_list PySem.F.slot_list_extend PySem.F.type_list_extend mt_extend (pv 8) (pa_cons (pe_lc (own := [("each", 12)]) (g := gName 12) (tt := tYes) rfl sc_sizes_within.nd (pi_tup (pv 11)) (blkOk_by (N := N_sizes_within) (sc := defScope s_sizes_within) (by decide +kernel)) (fun _ _ _ _ _ => pg_name (i := 12) sc_sizes_within.nd rfl (Or.inl rfl)) (fun _ _ _ _ _ => pts_nil) (fun _ _ _ _ _ => (pe_tup (pa_cons (pv 12) (pa_cons (pe_op op_add (pv 10) pe_int) pa_nil))))) pa_nil))))))))))))
    (pss_one (ps_ret (pe_tup (pa_cons (pv 5) (pa_cons (pv 6) (pa_cons (pv 7) pa_nil)))))))))), ?_⟩
  refine ⟨_, rfl, b, _, rfl, hB, rfl, _, _, rfl, _, _, rfl, _, _, rfl, rfl, (by show 3 ≤ sizeLine; decide), fun t0 ht0 => ⟨t0, _, rfl, SqT.of upd_same, rfl, _, _, rfl, _, _, rfl, _, _, rfl, rfl, ?_⟩⟩
  refine ⟨_, rfl, (by show 2 ≤ sizeLine; decide), fun t ht => ⟨(by show 1 ≤ sizeLine; decide), fun wt hwt => ?_⟩⟩
  have ntw : t ≠ wt := fun e => by
    rw [← e, upd_same] at hwt
    cases hwt
  have s1 : Same H (upd (upd (upd H t0 _) t (.tup [v, .int 0])) wt (.lst [.ref t])) := (same_upd ht0).trans ((same_upd ht).trans (same_upd hwt))
  refine ⟨fun n σ' H' => ∃ st a, Loop H (b1, b2, b3) d v b wt n st a σ' H', ⟨d.size + 1, [(d, 0)], (0, 0, 1), ⟨none, none, none, rfl⟩, s1, ((same_upd ht0).trans (same_upd ht)).free hwt, ⟨_, upd_same, ?_⟩, ?_, ?_, ?_, rfl⟩, ?_⟩
  · exact .cons ⟨t, v, rfl, by rw [upd_ne ntw, upd_same] <;> rfl, hR.pers (Pers.same s1)⟩ .nil
  · intro p hp
    rw [List.mem_singleton] at hp
    subst hp
    exact hF
  · show msr [(d, 0)] < d.size + 1
    unfold msr
    simp
  · show msr [(d, 0)] ≤ d.size
    unfold msr
    simp
  rintro n σ' H' ⟨st, a, ⟨x9, x10, x11, rfl⟩, sm, new, ⟨xs, hw, hX⟩, fl, ms, le, eq⟩
  have hlX := hX.len
  refine ⟨_, rfl, _, .inl ⟨_, SqL.of hw, rfl⟩, ite2 (fun e => ?_) (fun e => ?_)⟩
  · -- a turn
    cases st with
    | nil =>
      cases xs with
      | nil => cases e
      | cons x r => cases hX
    | cons p st =>
    obtain ⟨dp, k⟩ := p
    rw [List.reverse_cons] at hX
    obtain ⟨xs', x, rfl, hX', t1, y, rfl, ht1, hy⟩ := hX.unsnoc
    cases n with
    | zero => exact absurd ms (Nat.not_lt_zero _)
    | succ n =>
    have hFd : Fl dp := fl (dp, k) (List.mem_cons_self ..)
    have nt1 : t1 ≠ wt := fun e => by
      rw [e, hw] at ht1
      cases ht1
    refine ⟨fun σ2 H2 => ∃ st a, Loop H (b1, b2, b3) d v b wt n st a σ2 H2, fun σ2 H2 h => ⟨n, Nat.lt_succ_self n, h⟩, ?_⟩
    -- part, deep = waiting.pop()
    have hpop : (xs' ++ [V.ref t1])[(xs' ++ [V.ref t1]).length - 1]? = some (.ref t1) := by
      rw [List.length_append, List.length_singleton, Nat.add_sub_cancel, List.getElem?_append_right (Nat.le_refl _), Nat.sub_self]
      rfl
    have hdrop : (xs' ++ [V.ref t1]).dropLast = xs' := List.dropLast_concat ..
    refine ⟨_, rfl, .inl ⟨rfl, _, SqL.of hw⟩, wt, _, _, rfl, rfl, hw, hpop, t1, _, rfl, SqT.of (by rw [upd_ne nt1]; exact ht1), rfl, _, _, rfl, _, _, rfl, rfl, ?_⟩
    rw [hdrop]
    have P1 : Pers H' (upd H' wt (.lst xs')) := Pers.store hw
    -- inner = _parts_of(part)
    refine ⟨_, rfl, y, dp, rfl, hy.pers P1, hFd, fun r H2 s2 hr2 => ?_⟩
    have P2 : Pers H' H2 := P1.trans (Pers.same s2)
    have hw2 : H2 wt = some (.lst xs') := s2 _ _ upd_same
    have sm2 : Same H H2 := fun b o e => s2 _ _ (by rw [upd_ne (ne_of_none e new)]; exact sm b o e)
    have lk : look (b1, b2, b3) (n + 1) ((dp, k) :: st) a = (match inner dp with | none => none | some ys => if within (b1, b2, b3) (a.1 + places1 dp, max a.2.1 k, a.2.2 + ys.length) = true then look (b1, b2, b3) n ((ys.map fun y => (y, k + 1)).reverse ++ st) (a.1 + places1 dp, max a.2.1 k, a.2.2 + ys.length) else none) := rfl
    rw [eq] at lk
    cases hi : inner dp with
    | none =>
      rw [hi] at lk hr2
      have hr3 : r = .non := hr2
      subst hr3
      refine ⟨_, rfl, rfl, _, rfl, iteT (q _ _ sm2 ?_)⟩
      rw [lk]
      rfl
    | some ys =>
      rw [hi] at lk hr2
      obtain ⟨p, vs, rfl, hp, hV⟩ := hr2
      have hl := hV.len
      have hsz := inner_size hi
      have mst : msr ((dp, k) :: st) = dp.size + msr st := by
        unfold msr
        rw [List.map_cons, List.sum_cons]
      refine ⟨_, rfl, rfl, _, rfl, iteF ?_⟩
      -- if isinstance(part, str): many_places += len(part)
      obtain ⟨ty, hty, k1, _⟩ := (hy.pers P2).ty (K := K)
      refine ⟨fun σ3 H3 => σ3 = [some v, some (.ref b), some (.int b1), some (.int b2), some (.int b3), some (.int ((a.1 + places1 dp : Nat) : Int)), some (.int a.2.1), some (.int a.2.2), some (.ref wt), some y, some (.int k), some (.ref p), none] ∧ H3 = H2, ?_, ?_⟩
      · refine ⟨_, rfl, _, _, _, _, _, rfl, .ty _, hty, k1, _, rfl, ite2 (fun e => ?_) (fun e => ?_)⟩
        · cases dp with
          | str z =>
            cases hy with
            | str hz => exact ⟨_, rfl, _, rfl, _, _, rfl, ⟨Nat.le_trans hz (by decide), rfl⟩, _, _, rfl, rfl, rfl, rfl⟩
          | tup _ => cases e
          | lst => cases e
          | flat => cases e
        · cases dp with
          | str z => exact absurd rfl e
          | tup _ => exact ⟨rfl, rfl⟩
          | lst => exact ⟨rfl, rfl⟩
          | flat => exact ⟨rfl, rfl⟩
      rintro σ3 H3 ⟨rfl, rfl⟩
      -- deepest = max(deepest, deep); many_parts += len(inner)
      refine ⟨_, rfl, _, rfl, _, _, rfl, ?_⟩
      have emax : (if (k : Int) > (a.2.1 : Int) then (k : Int) else (a.2.1 : Int)) = ((max a.2.1 k : Nat) : Int) := by
        split <;> omega
      rw [emax]
      refine ⟨_, rfl, _, rfl, _, ys.length, rfl, .inr ⟨_, SqT.of hp, hl.symm⟩, _, _, rfl, rfl, ?_⟩
      have bad : ¬ within (b1, b2, b3) (a.1 + places1 dp, max a.2.1 k, a.2.2 + ys.length) = true → Q .non H3 := fun c => q _ _ sm2 (by
        rw [lk]
        show SizeR H3 .non (if within (b1, b2, b3) (a.1 + places1 dp, max a.2.1 k, a.2.2 + ys.length) = true then _ else none)
        rw [if_neg c]
        rfl)
      refine ⟨_, rfl, _, rfl, _, _, rfl, rfl, _, rfl, ite2 (fun e1 => ?_) (fun e1 => ?_)⟩
      · refine iteT (bad fun c => ?_)
        have := (within_iff.mp c).1
        have e2 : ((b1 : Nat) : Int) < ((a.1 + places1 dp : Nat) : Int) := of_decide_eq_true e1
        have e3 : a.1 + places1 dp ≤ b1 := this
        omega
      refine ⟨_, rfl, _, rfl, _, _, rfl, rfl, _, rfl, ite2 (fun e2 => ?_) (fun e2 => ?_)⟩
      · refine iteT (bad fun c => ?_)
        have e3 : max a.2.1 k ≤ b2 := (within_iff.mp c).2.1
        have e4 : ((b2 : Nat) : Int) < ((max a.2.1 k : Nat) : Int) := of_decide_eq_true e2
        omega
      refine ⟨_, rfl, _, rfl, _, _, rfl, rfl, _, rfl, ite2 (fun e3 => ?_) (fun e3 => ?_)⟩
      · refine bad fun c => ?_
        have e4 : a.2.2 + ys.length ≤ b3 := (within_iff.mp c).2.2
        have e5 : ((b3 : Nat) : Int) < ((a.2.2 + ys.length : Nat) : Int) := of_decide_eq_true e3
        omega
      have win : within (b1, b2, b3) (a.1 + places1 dp, max a.2.1 k, a.2.2 + ys.length) = true := by
        refine within_iff.mpr ⟨?_, ?_, ?_⟩
        · have e4 : ¬ ((b1 : Nat) : Int) < ((a.1 + places1 dp : Nat) : Int) := fun h => e1 (decide_eq_true h)
          show a.1 + places1 dp ≤ b1
          omega
        · have e4 : ¬ ((b2 : Nat) : Int) < ((max a.2.1 k : Nat) : Int) := fun h => e2 (decide_eq_true h)
          show max a.2.1 k ≤ b2
          omega
        · have e4 : ¬ ((b3 : Nat) : Int) < ((a.2.2 + ys.length : Nat) : Int) := fun h => e3 (decide_eq_true h)
          show a.2.2 + ys.length ≤ b3
          omega
      have lk2 : look (b1, b2, b3) n ((ys.map fun y => (y, k + 1)).reverse ++ st) (a.1 + places1 dp, max a.2.1 k, a.2.2 + ys.length) = sizesOf (b1, b2, b3) d := by
        have lk3 : sizesOf (b1, b2, b3) d = (if within (b1, b2, b3) (a.1 + places1 dp, max a.2.1 k, a.2.2 + ys.length) = true then look (b1, b2, b3) n ((ys.map fun y => (y, k + 1)).reverse ++ st) (a.1 + places1 dp, max a.2.1 k, a.2.2 + ys.length) else none) := lk
        rw [if_pos win] at lk3
        exact lk3.symm
      have ms2 := msr_step (k := k) (st := st) hi
      have lsz : ys.length ≤ (ys.map My.D.size).sum := by
        have := len_msr (ys.map fun y => (y, k + 1))
        unfold msr at this
        rw [List.length_map, List.map_map] at this
        exact this
      -- waiting.extend([(each, deep + 1) for each in inner])
      refine ⟨_, rfl, .inl ⟨rfl, _, SqL.of hw2⟩, _, rfl, p, rfl, ⟨_, SqT.of hp⟩, fun L hL => ?_⟩
      have nL : wt ≠ L := ne_of_none hw2 hL
      refine lc_tup (K := K) (a := p) (xs := vs) (fun i H4 => Same H3 H4 ∧ ∃ zs, H4 L = some (.lst zs) ∧ Two (StkRep H4) zs ((ys.take i).map fun y => (y, k + 1))) ⟨same_upd hL, [], upd_same, .nil⟩ (fun i H4 _ h => SqT.of (h.1 _ _ hp)) (fun i x H4 hx h => ?_) (fun H4 h => ?_)
      · obtain ⟨h1, zs, h2, h3⟩ := h
        obtain ⟨dy, hd, hxd⟩ := hV.get hx
        have hlz := h3.len
        rw [List.length_map, List.length_take] at hlz
        refine ⟨rfl, tyes ⟨_, rfl, _, rfl, _, _, rfl, rfl, (by show 2 ≤ sizeLine; decide), fun t ht => ⟨zs, ?_, ?_, ?_, ?_⟩⟩⟩
        · rw [upd_ne (ne_of_none h2 ht)]
          exact h2
        · have : zs.length ≤ 1000000 := by omega
          exact Nat.lt_of_le_of_lt this (by decide)
        · intro b o e
          rw [upd_ne (ne_of_none e hL), upd_ne (ne_of_none (h1 _ _ e) ht)]
          exact h1 _ _ e
        · refine ⟨_, upd_same, ?_⟩
          have P4 : Pers H4 (upd (upd H4 t (.tup [x, .int ((k : Int) + 1)])) L (.lst (zs ++ [.ref t]))) := (Pers.new ht).trans (Pers.store (by rw [upd_ne (ne_of_none h2 ht)]; exact h2))
          rw [List.take_add_one, hd, List.map_append]
          refine (h3.mono fun _ _ => StkRep.pers P4).app (.cons ⟨t, x, rfl, ?_, hxd.pers ((Pers.same h1).trans P4)⟩ .nil)
          have nt : t ≠ L := fun e => by
            rw [e] at ht
            rw [h2] at ht
            cases ht
          rw [upd_ne nt, upd_same]
          rfl
      · obtain ⟨h1, zs, h2, h3⟩ := h
        rw [hl, List.take_length] at h3
        have hlz := h3.len
        rw [List.length_map] at hlz
        have hw4 := h1 _ _ hw2
        have hlx := hX'.len
        have lst := len_msr st
        rw [List.length_reverse] at hlx
        refine ⟨wt, L, _, _, rfl, rfl, hw4, h2, ?_, ?_⟩
        · have : xs'.length + zs.length ≤ 1000000 := by omega
          exact Nat.le_trans this (by decide)
        · have P4 : Pers H4 (upd H4 wt (.lst (xs' ++ zs))) := Pers.store hw4
          refine ⟨_, _, ⟨_, _, _, rfl⟩, fun b o e => by rw [upd_ne (ne_of_none e new)]; exact h1 _ _ (sm2 b o e), new, ⟨_, upd_same, ?_⟩, ?_, ?_, ?_, lk2⟩
          · rw [List.reverse_append, List.reverse_reverse]
            exact (hX'.mono fun _ _ => StkRep.pers (P2.trans ((Pers.same h1).trans P4))).app (h3.mono fun _ _ => StkRep.pers P4)
          · intro q hq
            rcases List.mem_append.mp hq with hq | hq
            · rw [List.mem_reverse, List.mem_map] at hq
              obtain ⟨y, hy, rfl⟩ := hq
              exact fl_inner hFd hi y hy
            · exact fl q (List.mem_cons_of_mem _ hq)
          · omega
          · omega
  · -- the end
    have e1 : st = [] := by
      cases xs with
      | nil =>
        have : st.reverse.length = 0 := hlX.symm
        rw [List.length_reverse] at this
        exact List.eq_nil_of_length_eq_zero this
      | cons x r => exact absurd rfl e
    subst e1
    have e2 : sizesOf (b1, b2, b3) d = some a := by
      cases n with
      | zero => exact absurd ms (Nat.not_lt_zero _)
      | succ n => exact eq.symm
    refine ⟨_, rfl, _, rfl, _, rfl, (by show 3 ≤ sizeLine; decide), fun p hp => q _ _ (sm.trans (same_upd hp)) ?_⟩
    rw [e2]
    exact ⟨p, rfl, upd_same⟩
abbrev N_is_expression : List Str := ["value"]
theorem sc_is_expression : FnScope ["value"] ["value"] (defScope s_is_expression) := ⟨rfl, rfl, rfl, by decide +kernel, rfl, by decide +kernel, by decide +kernel⟩
theorem ok_isexpr {f : Addr} {fd : FuncData} (B : Bt K mg a_BOUNDS a_LONG_BOUNDS tL tM) (D : Df K mg "is_expression" s_is_expression ["value"] f fd) (Gsizes_within : Cl P w K mg base 4 "sizes_within" ["value", "bounds"] (spSizes K)) : FnOk P w K mg base CX0 5 f fd ["value"] (spIs (8, 6, 24)) := by
  refine D.F.ok sc_is_expression (fun vs H Q E h => ?_) (fun cdv A outer s H vs Q E hr h => ?_)
  · obtain ⟨v, d, rfl, _⟩ := h
    rfl
  obtain ⟨v, d, rfl, hR, hF, hZ, q⟩ := h
  refine ⟨_, (pss_one (ps_ret (pe_cmpR op_notN (pe_cl Gsizes_within (hr.mono (by omega)) rfl (pa_cons (pv 0) (pa_cons (pe_glob (v := .ref a_BOUNDS) rfl B.g_BOUNDS rfl) pa_nil))) pe_non (nomark _)))), ?_⟩
  refine ⟨_, rfl, v, d, a_BOUNDS, (8, 6, 24), rfl, hR, hF, hZ, B.tE _, fun r H' hs hr2 => ⟨rfl, ?_⟩⟩
  have e : (!decide (r = V.non)) = (sizesOf (8, 6, 24) d).isSome := by
    cases h : sizesOf (8, 6, 24) d with
    | none =>
      rw [h] at hr2
      have : r = .non := hr2
      subst this
      rfl
    | some a =>
      rw [h] at hr2
      obtain ⟨p, rfl, _⟩ := hr2
      rfl
  rw [e]
  exact q _ hs
def isTextD (m : Nat) : My.D → Bool
  | .str z => decide (z.length ≤ m) && z.cps.toList.all (fun c => decide (c ∈ (Str.ofString "abcd").cps.toList))
  | _ => false
def isWord (d : My.D) : Bool := isTextD 24 d
def spIsText : Sp := fun vs H Q _ => ∃ (v : V) (d : My.D) (m : Nat), vs = [v, .int m] ∧ Rep H v d ∧ ∀ H', Same H H' → Q (.bl (isTextD m d)) H'
def spIsWord : Sp := fun vs H Q _ => ∃ (v : V) (d : My.D), vs = [v] ∧ Rep H v d ∧ ∀ H', Same H H' → Q (.bl (isWord d)) H'
end
end My
namespace My
open PySem PySem.Spec PyProof.Rows L2
def spCheck : Sp := fun vs H Q _ => ∃ (v : V) (d : My.D), vs = [v] ∧ Rep H v d ∧ Fl d ∧ d.size ≤ 1000000 ∧ (sizesOf (40, 40, 200) d).isSome = true ∧ ∀ H', Same H H' → Q .non H'
section
variable {P : Program} {w : World} {K : PySem.W.Frag} {mg : Str → Option Value} {base : Heap} {a_BOUNDS a_LONG_BOUNDS : Addr} {tL tM : Tok}
/-- what stands at an expression that is no letter -/
theorem node_of {H : Hp} {v : V} {e : E} (hok : e.ok = true) (hR : Rep H v e.toD) (hs : ¬ isStr e.toD = true) : ∃ (w : Str) (y : My.D) (p : Addr) (x : V), w.length ≤ 1000 ∧ v = .ref p ∧ H p = some (.tup [.str w, x]) ∧ Rep H x y ∧
    (((w = sMaybe ∧ ∃ k, e = .maybe k ∧ y = k.toD) ∨ (w = sMany ∧ ∃ k, e = .many k ∧ y = k.toD)) ∨ ((w = sJoin ∧ ∃ es, e = .join es ∧ 2 ≤ es.length ∧ y = .tup (es.map E.toD)) ∨ (w = sOr ∧ ∃ es, e = .alt es ∧ 2 ≤ es.length ∧ y = .tup (es.map E.toD)))) := by
  have two : ∀ (w : Str) (y : My.D), e.toD = .tup [.str w, y] → ∃ p x, w.length ≤ 1000 ∧ v = .ref p ∧ H p = some (.tup [.str w, x]) ∧ Rep H x y := fun w y c => by
    rw [c] at hR
    obtain ⟨p, xs, rfl, hp, hz, hX⟩ := hR.untup
    match xs, hX with
    | [_, x], .cons (.str h) (.cons hx .nil) => exact ⟨p, x, h, rfl, hp, hx⟩
  cases e with
  | eps => exact absurd (by rw [E.toD]; rfl) hs
  | sym c => exact absurd (by rw [E.toD]; rfl) hs
  | maybe k =>
    obtain ⟨p, x, h0, h1, h2, h3⟩ := two sMaybe k.toD (by rw [E.toD])
    exact ⟨_, _, p, x, h0, h1, h2, h3, .inl (.inl ⟨rfl, k, rfl, rfl⟩)⟩
  | many k =>
    obtain ⟨p, x, h0, h1, h2, h3⟩ := two sMany k.toD (by rw [E.toD])
    exact ⟨_, _, p, x, h0, h1, h2, h3, .inl (.inr ⟨rfl, k, rfl, rfl⟩)⟩
  | join es =>
    rw [E.ok, oks_eq] at hok
    simp only [Bool.and_eq_true, decide_eq_true_eq] at hok
    obtain ⟨p, x, h0, h1, h2, h3⟩ := two sJoin (.tup (es.map E.toD)) (by rw [E.toD, toDs_eq])
    exact ⟨_, _, p, x, h0, h1, h2, h3, .inr (.inl ⟨rfl, es, rfl, hok.1.1, rfl⟩)⟩
  | alt es =>
    rw [E.ok, oks_eq] at hok
    simp only [Bool.and_eq_true, decide_eq_true_eq] at hok
    obtain ⟨p, x, h0, h1, h2, h3⟩ := two sOr (.tup (es.map E.toD)) (by rw [E.toD, toDs_eq])
    exact ⟨_, _, p, x, h0, h1, h2, h3, .inr (.inr ⟨rfl, es, rfl, hok.1.1, rfl⟩)⟩
/-- an expression within the lesser bounds -/
structure Esh (e : E) : Prop where
  ok : e.ok = true
  dep : e.depth ≤ 6
  pl : e.places ≤ 8
  pt : e.parts ≤ 24
  sz : e.toD.size ≤ 1000000
theorem short_top {e : E} (h : Esh e) : (sizesOf (8, 6, 24) e.toD).isSome = true := by
  rw [sizes_ok h.ok (by decide), if_pos (within_iff.mpr ⟨h.pl, h.dep, h.pt⟩)]
  rfl
def spChkE : Sp := fun vs H Q _ => ∃ (v : V) (e : E) (nm : Str), vs = [v, .str nm] ∧ Esh e ∧ Rep H v e.toD ∧ ∀ H', Same H H' → Q .non H'
abbrev N_check_expression : List Str := ["value", "name"]
theorem sc_check_expression : FnScope ["value", "name"] ["value", "name"] (defScope s_check_expression) := ⟨rfl, rfl, rfl, by decide +kernel, rfl, by decide +kernel, by decide +kernel⟩
theorem ok_checkexpr {f : Addr} {fd : FuncData} (B : Bt K mg a_BOUNDS a_LONG_BOUNDS tL tM) (Dd : DfD K mg "check_expression" s_check_expression ["value", "name"] [V.str "expression"] f fd) (Gis_expression : Cl P w K mg base 5 "is_expression" ["value"] (spIs (8, 6, 24))) : FnOk P w K mg base CX0 6 f fd ["value", "name"] spChkE := by
  refine Dd.ok sc_check_expression (fun vs H Q Ex h => ?_) (fun cdv A outer s H vs Q Ex hr h => ?_)
  · obtain ⟨v, e, nm, rfl, _⟩ := h
    rfl
  obtain ⟨v, e, nm, rfl, hE, hR, q⟩ := h
  refine ⟨_, (pss_one (ps_if (pt_not (pt_val (pe_cl Gis_expression (hr.mono (by omega)) rfl (pa_cons (pv 0) pa_nil)))) (pss_one ps_never) pss_nil)), ?_⟩
  refine ⟨_, rfl, v, _, rfl, hR, fl_toD e, hE.sz, fun H1 s1 => ?_⟩
  rw [short_top hE]
  exact ⟨_, rfl, iteF (q H1 s1)⟩
end
end My
namespace My
open PySem PySem.Spec PyProof.Rows L2
def LetAt (H : Hp) (la : Addr) (cs : List Nat) : Prop := H la = some (.lst (cs.map fun c => V.str ⟨#[c]⟩))
abbrev Rl := Nat → Nat → Prop
structure RowsAt (H0 H : Hp) (ra : Addr) (n : Nat) (F : Rl) : Prop where
  ex : ∃ ds : List Addr, H ra = some (.lst (ds.map V.ref)) ∧ ds.length = n ∧ ds.Nodup ∧ ∀ i d, ds[i]? = some d → ∃ ms : List Int, H d = some (.dK (keysD ms)) ∧ ms.Nodup ∧ ∀ x, x ∈ ms ↔ ∃ j : Nat, x = (j : Int) ∧ F i j
  bd : ∀ i j, F i j → j < 40
  dm : ∀ i j, F i j → i < n
  nw : ∀ ds : List Addr, H ra = some (.lst (ds.map V.ref)) → ∀ d ∈ ds, H0 d = none
/-- all but the two lists and the dicts is as it was -/
def Fr (la ra : Addr) (H H' : Hp) : Prop := ∀ b o, H b = some o → b ≠ la → b ≠ ra → (∀ kvs, o ≠ .dK kvs) → H' b = some o
theorem Fr.refl (la ra : Addr) (H : Hp) : Fr la ra H H := fun _ _ h _ _ _ => h
theorem Fr.trans {la ra : Addr} {H H1 H2 : Hp} (x : Fr la ra H H1) (y : Fr la ra H1 H2) : Fr la ra H H2 := fun b o h h1 h2 h3 => y b o (x b o h h1 h2 h3) h1 h2 h3
theorem Fr.same {la ra : Addr} {H H' : Hp} (s : Same H H') : Fr la ra H H' := fun b o h _ _ _ => s b o h
theorem RowsAt.eqv {H0 H : Hp} {ra : Addr} {n : Nat} {F F' : Rl} (h : RowsAt H0 H ra n F) (e : ∀ i j, F i j ↔ F' i j) : RowsAt H0 H ra n F' where
  ex := by
    obtain ⟨ds, h1, h2, h3, h4⟩ := h.ex
    refine ⟨ds, h1, h2, h3, fun i d hd => ?_⟩
    obtain ⟨ms, a, b, c⟩ := h4 i d hd
    exact ⟨ms, a, b, fun x => (c x).trans (exists_congr fun j => and_congr_right fun _ => e i j)⟩
  bd i j hf := h.bd i j ((e i j).mpr hf)
  dm i j hf := h.dm i j ((e i j).mpr hf)
  nw := h.nw
theorem RowsAt.same {H0 H H' : Hp} {ra : Addr} {n : Nat} {F : Rl} (h : RowsAt H0 H ra n F) (s : Same H H') : RowsAt H0 H' ra n F where
  ex := by
    obtain ⟨ds, h1, h2, h3, h4⟩ := h.ex
    refine ⟨ds, s _ _ h1, h2, h3, fun i d hd => ?_⟩
    obtain ⟨ms, a, b⟩ := h4 i d hd
    exact ⟨ms, s _ _ a, b⟩
  bd := h.bd
  dm := h.dm
  nw ds hds := by
    obtain ⟨ds', h1, _⟩ := h.ex
    have e := (s _ _ h1).symm.trans hds
    refine h.nw ds ?_
    rw [h1, Option.some.inj e]
theorem keysD_ne {ms : List Int} {H : Hp} {d b : Addr} (h : H d = some (.dK (keysD ms))) {o : HO} (hb : H b = some o) (n : ∀ kvs, o ≠ .dK kvs) : b ≠ d := fun e => by
  rw [e, h] at hb
  cases hb
  exact n _ rfl
/-- one more key in one row -/
theorem RowsAt.put {H0 H : Hp} {ra : Addr} {n : Nat} {F : Rl} (h : RowsAt H0 H ra n F) {i j : Nat} (hi : i < n) (hj : j < 40) : ∃ (ds : List Addr) (d : Addr) (ms : List Int), H ra = some (.lst (ds.map V.ref)) ∧ ds[i]? = some d ∧ H d = some (.dK (keysD ms)) ∧ (keysD ms).length < sizeLine ∧
    RowsAt H0 (upd H d (.dK (putK (keysD ms) (Sum.inl (j : Int) : Key) (V.bl true)))) ra n (fun a b => F a b ∨ (a = i ∧ b = j)) ∧ (∀ b o, H b = some o → (∀ kvs, o ≠ .dK kvs) → (upd H d (.dK (putK (keysD ms) (Sum.inl (j : Int) : Key) (V.bl true)))) b = some o) ∧ H0 d = none := by
  obtain ⟨ds, h1, h2, h3, h4⟩ := h.ex
  have hd : ds[i]? = some ds[i] := List.getElem?_eq_getElem (by omega)
  obtain ⟨ms, a, b, c⟩ := h4 i _ hd
  have hlen : ms.length ≤ 40 := nodup_len 40 ms b fun x hx => by
    obtain ⟨j', rfl, hf⟩ := (c x).mp hx
    have := h.bd i j' hf
    omega
  refine ⟨ds, ds[i], ms, h1, hd, a, by rw [keysD_len]; exact Nat.lt_of_le_of_lt hlen (by decide), ⟨⟨ds, ?_, h2, h3, fun i' d' hd' => ?_⟩, fun i' j' hf => ?_, fun i' j' hf => ?_, fun ds2 hds2 => ?_⟩, fun b' o hb hn => ?_, h.nw ds h1 _ (List.getElem_mem _)⟩
  · rw [upd_ne (keysD_ne a h1 fun kvs e => by cases e)]
    exact h1
  · by_cases e : i' = i
    · subst e
      have e2 : d' = ds[i'] := Option.some.inj (hd'.symm.trans hd)
      subst e2
      refine ⟨addK ms j, by rw [upd_same, putK_keys]; rfl, nodup_addK b, fun x => ?_⟩
      rw [mem_addK, c]
      constructor
      · rintro (⟨j', rfl, hf⟩ | rfl)
        · exact ⟨j', rfl, .inl hf⟩
        · exact ⟨j, rfl, .inr ⟨rfl, rfl⟩⟩
      · rintro ⟨j', rfl, hf | ⟨_, rfl⟩⟩
        · exact .inl ⟨j', rfl, hf⟩
        · exact .inr rfl
    · have n' : d' ≠ ds[i] := fun z => e (nd_ix h3 hd' (by rw [z]; exact hd))
      obtain ⟨ms', a', b', c'⟩ := h4 i' d' hd'
      refine ⟨ms', by rw [upd_ne n']; exact a', b', fun x => (c' x).trans ?_⟩
      constructor
      · rintro ⟨j', rfl, hf⟩
        exact ⟨j', rfl, .inl hf⟩
      · rintro ⟨j', rfl, hf | ⟨z, _⟩⟩
        · exact ⟨j', rfl, hf⟩
        · exact absurd z e
  · rcases hf with hf | ⟨_, rfl⟩
    · exact h.bd i' j' hf
    · exact hj
  · rcases hf with hf | ⟨rfl, _⟩
    · exact h.dm i' j' hf
    · exact hi
  · rw [upd_ne (keysD_ne a h1 fun kvs e => by cases e)] at hds2
    exact h.nw ds2 hds2
  · rw [upd_ne (keysD_ne a hb hn)]
    exact hb
def spLink (K : PySem.W.Frag) : Sp := fun vs H Q _ => ∃ (H0 : Hp) (ra f g : Addr) (n : Nat) (F : Rl) (xs ys : List Nat), vs = [.ref ra, .ref f, .ref g] ∧ RowsAt H0 H ra n F ∧ H f = some (.lst (natsV xs)) ∧ H g = some (.lst (natsV ys)) ∧ (∀ i ∈ xs, i < n) ∧ (∀ j ∈ ys, j < 40) ∧
  ∀ H', (∀ b o, H b = some o → (∀ kvs, o ≠ .dK kvs) → H' b = some o) → (∀ b o, H0 b = some o → H b = some o → H' b = some o) → RowsAt H0 H' ra n (fun i j => F i j ∨ (i ∈ xs ∧ j ∈ ys)) → Q .non H'
theorem mem_take_nat {xs : List Nat} {i z : Nat} (h : xs[i]? = some z) (x : Nat) : x ∈ xs.take (i + 1) ↔ x ∈ xs.take i ∨ x = z := by
  rw [take_snoc h, List.mem_append, List.mem_singleton]
section
variable {P : Program} {w : World} {K : PySem.W.Frag} {mg : Str → Option Value} {base : Heap} {a_BOUNDS a_LONG_BOUNDS : Addr} {tL tM : Tok}
abbrev N__link : List Str := ["rows", "ends", "begins", "end", "begin"]
theorem sc__link : FnScope ["rows", "ends", "begins", "end", "begin"] ["rows", "ends", "begins"] (defScope s__link) := ⟨rfl, rfl, rfl, by decide +kernel, rfl, by decide +kernel, by decide +kernel⟩
theorem ok_link {f : Addr} {fd : FuncData} (B : Bt K mg a_BOUNDS a_LONG_BOUNDS tL tM) (Dd : Df K mg "_link" s__link ["rows", "ends", "begins"] f fd) : FnOk P w K mg base CX0 1 f fd ["rows", "ends", "begins"] (spLink K) := by
  refine Dd.F.ok sc__link (fun vs H Q Ex h => ?_) (fun cdv A outer s H vs Q Ex hr h => ?_)
  · obtain ⟨H0, ra, f, g, n, F, xs, ys, rfl, _⟩ := h
    rfl
  obtain ⟨H0, ra, fa, ga, n, F, xs, ys, rfl, hRw, hF, hG, hx, hy, q⟩ := h
  refine ⟨_, (pss_one (ps_for PassesOwn.never rfl (pi_list (pv 1)) (pg_name (i := 3) sc__link.nd rfl (Or.inl rfl)) (pss_one (ps_for PassesOwn.never rfl (pi_list (pv 2)) (pg_name (i := 4) sc__link.nd rfl (Or.inl rfl)) (pss_one (ps_dput (hu_of hr) (pe_ix (r := rIxL K) ix_list (pv 0) (pv 3) (fun _ _ => rfl)) (pv 4) pe_bl rfl)))))), ?_⟩
  have nd : ∀ (xs : List V) kvs, HO.lst xs ≠ .dK kvs := fun _ _ e => by cases e
  refine ⟨_, rfl, fa, rfl, ⟨_, SqL.of hF⟩, for_list (K := K) (a := fa) (xs := natsV xs) (fun i σ' H' => ∃ o1 o2 : Option V, σ' = [some (.ref ra), some (.ref fa), some (.ref ga), o1, o2] ∧ (∀ b o, H b = some o → (∀ kvs, o ≠ .dK kvs) → H' b = some o) ∧ (∀ b o, H0 b = some o → H b = some o → H' b = some o) ∧ RowsAt H0 H' ra n (fun a b => F a b ∨ (a ∈ xs.take i ∧ b ∈ ys)))
    ⟨none, none, rfl, fun b o h _ => h, fun b o _ h => h, hRw.eqv fun i j => by simp⟩ (fun i σ' H' _ h => ?_) (fun i y σ' H' hi h => ?_) (fun σ' H' h => ?_)⟩
  · obtain ⟨_, _, _, h1, _⟩ := h
    exact SqL.of (h1 _ _ hF (nd _))
  · obtain ⟨o1, o2, rfl, h1, h0, h2⟩ := h
    unfold natsV at hi
    rw [List.getElem?_map] at hi
    obtain ⟨z, hz, rfl⟩ := Option.map_eq_some_iff.mp hi
    have hzm := List.mem_of_getElem? hz
    refine ⟨_, rfl, ga, rfl, ⟨_, SqL.of (h1 _ _ hG (nd _))⟩, for_list (K := K) (a := ga) (xs := natsV ys) (fun j σ' H' => ∃ o2 : Option V, σ' = [some (.ref ra), some (.ref fa), some (.ref ga), some (.int z), o2] ∧ (∀ b o, H b = some o → (∀ kvs, o ≠ .dK kvs) → H' b = some o) ∧ (∀ b o, H0 b = some o → H b = some o → H' b = some o) ∧ RowsAt H0 H' ra n (fun a b => F a b ∨ (a ∈ xs.take i ∧ b ∈ ys) ∨ (a = z ∧ b ∈ ys.take j)))
      ⟨o2, rfl, h1, h0, h2.eqv fun i j => by simp⟩ (fun j σ' H' _ h => ?_) (fun j y σ' H' hj h => ?_) (fun σ' H' h => ?_)⟩
    · obtain ⟨_, _, h1, _⟩ := h
      exact SqL.of (h1 _ _ hG (nd _))
    · obtain ⟨o2, rfl, g1, g0, g2⟩ := h
      unfold natsV at hj
      rw [List.getElem?_map] at hj
      obtain ⟨u, hu, rfl⟩ := Option.map_eq_some_iff.mp hj
      have hum := List.mem_of_getElem? hu
      obtain ⟨ds, d, ms, p1, p2, p3, p4, p5, p6, p7⟩ := g2.put (hx z hzm) (hy u hum)
      refine ⟨_, rfl, _, rfl, ra, _, (z : Int), .ref d, rfl, rfl, SqL.of p1, at_of (j := z) rfl (by rw [List.getElem?_map, p2]; rfl), _, rfl, d, _, rfl, DPut.k (k := Sum.inl (u : Int)) p3 p4, _, rfl, fun b o hb hn => p6 b o (g1 b o hb hn) hn, fun b o h0 hb => by rw [upd_ne (ne_of_none h0 p7)]; exact g0 b o h0 hb, p5.eqv fun a b => ?_⟩
      rw [mem_take_nat hu]
      constructor
      · rintro ((h | h | ⟨h, h'⟩) | ⟨h, h'⟩)
        · exact .inl h
        · exact .inr (.inl h)
        · exact .inr (.inr ⟨h, .inl h'⟩)
        · exact .inr (.inr ⟨h, .inr h'⟩)
      · rintro (h | h | ⟨h, h' | h'⟩)
        · exact .inl (.inl h)
        · exact .inl (.inr (.inl h))
        · exact .inl (.inr (.inr ⟨h, h'⟩))
        · exact .inr ⟨h, h'⟩
    · obtain ⟨o2, rfl, g1, g0, g2⟩ := h
      have e2 : (natsV ys).length = ys.length := List.length_map _
      rw [e2, List.take_length] at g2
      refine ⟨_, _, rfl, g1, g0, g2.eqv fun a b => ?_⟩
      rw [mem_take_nat hz]
      constructor
      · rintro (h | ⟨h, h'⟩ | ⟨h, h'⟩)
        · exact .inl h
        · exact .inr ⟨.inl h, h'⟩
        · exact .inr ⟨.inr h, h'⟩
      · rintro (h | ⟨h | h, h'⟩)
        · exact .inl h
        · exact .inr (.inl ⟨h, h'⟩)
        · exact .inr (.inr ⟨h, h'⟩)
  · obtain ⟨o1, o2, rfl, h1, h0, h2⟩ := h
    have e2 : (natsV xs).length = xs.length := List.length_map _
    rw [e2, List.take_length] at h2
    exact q H' h1 h0 h2
end
end My
namespace My
open PySem PySem.Spec PyProof.Rows L2
theorem map_ref_inj : ∀ {as bs : List Addr}, as.map V.ref = bs.map V.ref → as = bs
  | [], [], _ => rfl
  | [], _ :: _, h => by cases h
  | _ :: _, [], h => by cases h
  | a :: as, b :: bs, h => by
    rw [List.map_cons, List.map_cons] at h
    have h1 := List.cons.inj h
    rw [V.ref.inj h1.1, map_ref_inj h1.2]
structure EndsR (H0 H H' : Hp) (la ra : Addr) (cs ls : List Nat) (pl : Nat) (F : Rl) (g : Gl) (f l : Addr) : Prop where
  fr : Fr la ra H H'
  le : LetAt H' la (cs ++ ls)
  k0 : Same H0 H'
  rw : RowsAt H0 H' ra (cs.length + pl) (fun i j => F i j ∨ (i, j) ∈ g.fol)
  fst : H' f = some (.lst (natsV g.fst))
  lst : H' l = some (.lst (natsV g.lst))
  f1 : f ≠ la
  f2 : f ≠ ra
  l1 : l ≠ la
  l2 : l ≠ ra
theorem EndsR.eqv {H0 H H' : Hp} {la ra : Addr} {cs ls : List Nat} {pl : Nat} {F : Rl} {g g' : Gl} {f l : Addr} (e : Eqv g g') (h : EndsR H0 H H' la ra cs ls pl F g f l) : EndsR H0 H H' la ra cs ls pl F g' f l :=
  ⟨h.fr, h.le, h.k0, h.rw.eqv fun i j => or_congr Iff.rfl (e.fol (i, j)), by rw [← e.fst]; exact h.fst, by rw [← e.lst]; exact h.lst, h.f1, h.f2, h.l1, h.l2⟩
theorem EndsR.same {H0 H H' H'' : Hp} {la ra : Addr} {cs ls : List Nat} {pl : Nat} {F : Rl} {g : Gl} {f l : Addr} (s : Same H' H'') (h : EndsR H0 H H' la ra cs ls pl F g f l) : EndsR H0 H H'' la ra cs ls pl F g f l :=
  ⟨h.fr.trans (Fr.same s), s _ _ h.le, h.k0.trans s, h.rw.same s, s _ _ h.fst, s _ _ h.lst, h.f1, h.f2, h.l1, h.l2⟩
theorem Fr.pers {la ra : Addr} {H H' : Hp} (x : Fr la ra H H') (h1 : ∃ xs, H la = some (.lst xs)) (h2 : ∃ xs, H ra = some (.lst xs)) (h3 : ∃ xs, H' la = some (.lst xs)) (h4 : ∃ xs, H' ra = some (.lst xs)) : Pers H H' := by
  obtain ⟨x1, h1⟩ := h1
  obtain ⟨x2, h2⟩ := h2
  refine ⟨fun b xs h => x b _ h (fun e => ?_) (fun e => ?_) (fun kvs e => by cases e), fun b xs h => ?_⟩
  · rw [e, h1] at h
    cases h
  · rw [e, h2] at h
    cases h
  · by_cases e1 : b = la
    · subst e1
      exact h3
    · by_cases e2 : b = ra
      · subst e2
        exact h4
      · exact ⟨xs, x b _ h e1 e2 fun kvs e => by cases e⟩
theorem RowsAt.isl {H0 H : Hp} {ra : Addr} {n : Nat} {F : Rl} (h : RowsAt H0 H ra n F) : ∃ xs, H ra = some (.lst xs) := by
  obtain ⟨ds, h1, _⟩ := h.ex
  exact ⟨_, h1⟩
theorem natsV_app (xs ys : List Nat) : natsV xs ++ natsV ys = natsV (xs ++ ys) := List.map_append.symm
theorem natsV_len (xs : List Nat) : (natsV xs).length = xs.length := List.length_map _
/-- what the three ask and promise -/
structure EndsP (H0 H : Hp) (la ra : Addr) (cs : List Nat) (F : Rl) (n : Nat) : Prop where
  ne : la ≠ ra
  le : LetAt H la cs
  rw : RowsAt H0 H ra cs.length F
  k0 : Same H0 H
  nl : H0 la = none
  nr : H0 ra = none
  sz : cs.length + n ≤ 40
def spEnds (n : Nat) : Sp := fun vs H Q _ => ∃ (H0 : Hp) (v : V) (la ra : Addr) (e : E) (cs : List Nat) (F : Rl), vs = [v, .ref la, .ref ra] ∧ e.ok = true ∧ e.depth < n ∧ Rep H v e.toD ∧ EndsP H0 H la ra cs F e.places ∧
  ∀ (t f l : Addr) (H' : Hp), H' t = some (.tup [.bl (gl e cs.length).nul, .ref f, .ref l]) → EndsR H0 H H' la ra cs e.letters e.places F (gl e cs.length) f l → Q (.ref t) H'
def spLeaf : Sp := fun vs H Q _ => ∃ (H0 : Hp) (z : Str) (la ra : Addr) (e : E) (cs : List Nat) (F : Rl), vs = [.str z, .ref la, .ref ra] ∧ ((z = sNo ∧ e = .eps) ∨ ∃ c, z = ⟨#[c]⟩ ∧ e = .sym c) ∧ EndsP H0 H la ra cs F e.places ∧
  ∀ (t f l : Addr) (H' : Hp), H' t = some (.tup [.bl (gl e cs.length).nul, .ref f, .ref l]) → EndsR H0 H H' la ra cs e.letters e.places F (gl e cs.length) f l → Q (.ref t) H'
def spRow (n : Nat) (G : List E → Nat → Gl) : Sp := fun vs H Q _ => ∃ (H0 : Hp) (p la ra : Addr) (xs : List V) (es : List E) (cs : List Nat) (F : Rl), vs = [.ref p, .ref la, .ref ra] ∧ H p = some (.tup xs) ∧ Two (Rep H) xs (es.map E.toD) ∧ (∀ e ∈ es, e.ok = true ∧ e.depth < n) ∧ EndsP H0 H la ra cs F (E.places.placess es) ∧
  ∀ (t f l : Addr) (H' : Hp), H' t = some (.tup [.bl (G es cs.length).nul, .ref f, .ref l]) → EndsR H0 H H' la ra cs (E.letters.letterss es) (E.places.placess es) F (G es cs.length) f l → Q (.ref t) H'
section
variable {P : Program} {w : World} {K : PySem.W.Frag} {mg : Str → Option Value} {base : Heap} {a_BOUNDS a_LONG_BOUNDS : Addr} {tL tM : Tok}
abbrev N__ends_of_leaf : List Str := ["part", "letters", "rows", "place"]
theorem sc__ends_of_leaf : FnScope ["part", "letters", "rows", "place"] ["part", "letters", "rows"] (defScope s__ends_of_leaf) := ⟨rfl, rfl, rfl, by decide +kernel, rfl, by decide +kernel, by decide +kernel⟩
theorem ok_leaf {f : Addr} {fd : FuncData} (B : Bt K mg a_BOUNDS a_LONG_BOUNDS tL tM) (Dd : Df K mg "_ends_of_leaf" s__ends_of_leaf ["part", "letters", "rows"] f fd) : FnOk P w K mg base CX0 1 f fd ["part", "letters", "rows"] spLeaf := by
  refine Dd.F.ok sc__ends_of_leaf (fun vs H Q Ex h => ?_) (fun cdv A outer s H vs Q Ex hr h => ?_)
  · obtain ⟨H0, z, la, ra, e, cs, F, rfl, _⟩ := h
    rfl
  obtain ⟨H0, z, la, ra, e, cs, F, rfl, he, hP, q⟩ := h
  refine ⟨_, (pss_cons (ps_if (pt_cmpR op_eq (pv 0) pe_str (nomark _)) (pss_one (ps_ret (pe_tup (pa_cons pe_bl (pa_cons (pe_lst pa_nil) (pa_cons (pe_lst pa_nil) pa_nil)))))) pss_nil)
    (pss_cons (ps_set (i := 3) sc__ends_of_leaf.nd rfl (Or.inl rfl) (pe_callB call_len rfl B.b_len boot_len (pa_cons (pv 1) pa_nil)))
    (pss_cons (ps_expr (pe_bm PySem.F.plainAttrs_list PySem.F.slot_list_append PySem.F.type_list_append mt_append (pv 1) (pa_cons (pv 0) pa_nil)))
    (pss_cons (ps_expr (pe_bm PySem.F.plainAttrs_list PySem.F.slot_list_append PySem.F.type_list_append mt_append (pv 2) (pa_cons pe_dnewK pa_nil)))
    (pss_one (ps_ret (pe_tup (pa_cons pe_bl (pa_cons (pe_lst (pa_cons (pv 3) pa_nil)) (pa_cons (pe_lst (pa_cons (pv 3) pa_nil)) pa_nil)))))))))), ?_⟩
  obtain ⟨hne, hLe, hRw, hk0, hnl, hnr, hsz⟩ := hP
  refine ⟨_, rfl, rfl, _, rfl, ite2 (fun e1 => ?_) (fun e1 => ?_)⟩
  · have hz := vstr e1
    rcases he with ⟨rfl, rfl⟩ | ⟨c, rfl, rfl⟩
    · refine ⟨Nat.zero_le _, fun f hf => ⟨Nat.zero_le _, fun l hl => ⟨(by show 3 ≤ sizeLine; decide), fun t ht => ?_⟩⟩⟩
      have s2 := (same_upd (o := .lst []) hf).trans (same_upd (o := .lst []) hl)
      have s3 := s2.trans (same_upd (o := .tup [.bl true, .ref f, .ref l]) ht)
      have hfl : f ≠ l := fun c => by rw [← c, upd_same] at hl; cases hl
      obtain ⟨xr, hxr⟩ := hRw.isl
      refine q t f l _ upd_same ⟨Fr.same s3, s3 _ _ (by rw [E.letters, List.append_nil]; exact hLe), hk0.trans s3, (hRw.same s3).eqv fun i j => ⟨.inl, fun h => h.elim id fun h => by cases h⟩, ?_, ?_, ?_, ?_, ?_, ?_⟩
      · exact (same_upd ht) _ _ ((same_upd hl) _ _ upd_same)
      · exact (same_upd ht) _ _ upd_same
      · exact (ne_of_none hLe hf).symm
      · exact (ne_of_none hxr hf).symm
      · exact (ne_of_none ((same_upd hf) _ _ hLe) hl).symm
      · exact (ne_of_none ((same_upd hf) _ _ hxr) hl).symm
    · have := congrArg Str.length hz
      have l0 : (Str.ofString "").length = 0 := lE
      rw [l0] at this
      cases this
  · have hz := vstrN e1
    rcases he with ⟨h, _⟩ | ⟨c, rfl, rfl⟩
    · exact absurd h hz
    · rw [E.places] at hsz
      obtain ⟨ds, r1, r2, r3, r4⟩ := hRw.ex
      refine ⟨_, rfl, _, cs.length, rfl, .inl ⟨_, SqL.of hLe, by rw [List.length_map]⟩, ?_⟩
      refine ⟨_, rfl, .inl ⟨rfl, _, SqL.of hLe⟩, _, rfl, la, _, _, rfl, rfl, hLe, ?_, ?_⟩
      · rw [List.length_map]
        exact Nat.lt_of_le_of_lt (m := 40) (by omega) (by decide)
      have hra1 : (upd H la (.lst (cs.map (fun c => V.str ⟨#[c]⟩) ++ [V.str ⟨#[c]⟩]))) ra = some (.lst (ds.map V.ref)) := by rw [upd_ne hne.symm]; exact r1
      refine ⟨_, rfl, .inl ⟨rfl, _, SqL.of hra1⟩, fun d hd => ⟨ra, _, _, rfl, rfl, (same_upd hd) _ _ hra1, ?_, ?_⟩⟩
      · rw [List.length_map]
        exact Nat.lt_of_le_of_lt (m := 40) (by omega) (by decide)
      have dla : d ≠ la := fun c => by rw [c, upd_same] at hd; cases hd
      have dra : d ≠ ra := (ne_of_none hra1 hd).symm
      have dH : H d = none := by rw [upd_ne dla] at hd; exact hd
      have hla2 : (upd (upd (upd H la (.lst (cs.map (fun c => V.str ⟨#[c]⟩) ++ [V.str ⟨#[c]⟩]))) d (.dK [])) ra (.lst (ds.map V.ref ++ [V.ref d]))) la = some (.lst ((cs ++ [c]).map (fun c => V.str ⟨#[c]⟩))) := by
        rw [upd_ne hne, upd_ne dla.symm, upd_same, List.map_append]
        rfl
      have hFr : Fr la ra H (upd (upd (upd H la (.lst (cs.map (fun c => V.str ⟨#[c]⟩) ++ [V.str ⟨#[c]⟩]))) d (.dK [])) ra (.lst (ds.map V.ref ++ [V.ref d]))) := fun b o hb h1 h2 _ => by
        rw [upd_ne h2, upd_ne (ne_of_none hb dH), upd_ne h1]
        exact hb
      have hS0 : Same H0 (upd (upd (upd H la (.lst (cs.map (fun c => V.str ⟨#[c]⟩) ++ [V.str ⟨#[c]⟩]))) d (.dK [])) ra (.lst (ds.map V.ref ++ [V.ref d]))) := fun b o hb => by
        rw [upd_ne (ne_of_none hb hnr), upd_ne (ne_of_none (hk0 _ _ hb) dH), upd_ne (ne_of_none hb hnl)]
        exact hk0 _ _ hb
      have hRow : RowsAt H0 (upd (upd (upd H la (.lst (cs.map (fun c => V.str ⟨#[c]⟩) ++ [V.str ⟨#[c]⟩]))) d (.dK [])) ra (.lst (ds.map V.ref ++ [V.ref d]))) ra (cs.length + 1) F := by
        have noF : ∀ j, ¬ F cs.length j := fun j hf => absurd (hRw.dm _ j hf) (Nat.lt_irrefl _)
        refine ⟨⟨ds ++ [d], by rw [upd_same, List.map_append]; rfl, by rw [List.length_append, r2]; rfl, ?_, fun i d' hd' => ?_⟩, hRw.bd, fun i j hf => Nat.lt_succ_of_lt (hRw.dm i j hf), fun ds2 hds2 x hx => ?_⟩
        · rw [List.nodup_append]
          refine ⟨r3, by simp, fun a ha b hb e => ?_⟩
          rw [List.mem_singleton] at hb
          obtain ⟨i, hi⟩ := List.getElem?_of_mem ha
          obtain ⟨ms, h1, _⟩ := r4 i a hi
          rw [e, hb, dH] at h1
          cases h1
        · rcases Nat.lt_or_ge i ds.length with hi | hi
          · rw [List.getElem?_append_left hi] at hd'
            obtain ⟨ms, h1, h2⟩ := r4 i d' hd'
            refine ⟨ms, ?_, h2⟩
            have n1 : d' ≠ ra := fun c => by rw [c, r1] at h1; cases h1
            have n2 : d' ≠ la := fun c => by
              have : H la = some (.lst (cs.map fun c => V.str ⟨#[c]⟩)) := hLe
              rw [c, this] at h1
              cases h1
            rw [upd_ne n1, upd_ne (ne_of_none h1 dH), upd_ne n2]
            exact h1
          · rw [List.getElem?_append_right hi] at hd'
            have hi2 : i - ds.length = 0 := by
              have := (List.getElem?_eq_some_iff.mp hd').1
              simp at this
              omega
            rw [hi2] at hd'
            cases hd'
            have hi3 : i = cs.length := by omega
            subst hi3
            refine ⟨[], by rw [upd_ne dra, upd_same]; rfl, List.nodup_nil, fun x => ⟨(fun h => by cases h), fun ⟨j, _, hf⟩ => absurd hf (noF j)⟩⟩
        · rw [upd_same] at hds2
          have e3 : ds.map V.ref ++ [V.ref d] = ds2.map V.ref := HO.lst.inj (Option.some.inj hds2)
          have e4 : ds ++ [d] = ds2 := map_ref_inj (by rw [List.map_append]; exact e3)
          rw [← e4] at hx
          rcases List.mem_append.mp hx with hx | hx
          · exact hRw.nw ds r1 x hx
          · rw [List.mem_singleton] at hx
            subst hx
            exact hk0.free dH
      refine ⟨_, rfl, (by show 1 ≤ sizeLine; decide), fun f hf => ⟨_, rfl, (by show 1 ≤ sizeLine; decide), fun l hl => ⟨(by show 3 ≤ sizeLine; decide), fun t ht => ?_⟩⟩⟩
      have s3 := (same_upd (o := .lst [V.int (cs.length : Int)]) hf).trans ((same_upd (o := .lst [V.int (cs.length : Int)]) hl).trans (same_upd (o := .tup [.bl false, .ref f, .ref l]) ht))
      obtain ⟨xr, hxr⟩ := hRow.isl
      refine q t f l _ upd_same ⟨hFr.trans (Fr.same s3), s3 _ _ hla2, hS0.trans s3, (hRow.same s3).eqv fun i j => ⟨.inl, fun h => h.elim id fun h => by cases h⟩, ?_, ?_, ?_, ?_, ?_, ?_⟩
      · exact (same_upd ht) _ _ ((same_upd hl) _ _ upd_same)
      · exact (same_upd ht) _ _ upd_same
      · exact (ne_of_none hla2 hf).symm
      · exact (ne_of_none hxr hf).symm
      · exact (ne_of_none ((same_upd hf) _ _ hla2) hl).symm
      · exact (ne_of_none ((same_upd hf) _ _ hxr) hl).symm
end
end My
namespace My
open PySem PySem.Spec PyProof.Rows L2
theorem placess_snoc (es : List E) (e : E) : E.places.placess (es ++ [e]) = E.places.placess es + e.places := by
  rw [placess_eq, placess_eq, List.map_append, List.sum_append]
  show _ + (e.places + 0) = _
  omega
theorem placess_take (es : List E) (i : Nat) : E.places.placess (es.take i) ≤ E.places.placess es := by
  have e := List.take_append_drop i es
  have : E.places.placess es = E.places.placess (es.take i) + E.places.placess (es.drop i) := by
    rw [placess_eq, placess_eq, placess_eq, ← List.sum_append, ← List.map_append, e]
  omega
section
variable {P : Program} {w : World} {K : PySem.W.Frag} {mg : Str → Option Value} {base : Heap} {a_BOUNDS a_LONG_BOUNDS : Addr} {tL tM : Tok}
abbrev N__ends_of_join : List Str := ["parts", "letters", "rows", "empty", "first", "last", "part", "part_empty", "part_first", "part_last"]
theorem sc__ends_of_join : FnScope ["parts", "letters", "rows", "empty", "first", "last", "part", "part_empty", "part_first", "part_last"] ["parts", "letters", "rows"] (defScope s__ends_of_join) := ⟨rfl, rfl, rfl, by decide +kernel, rfl, by decide +kernel, by decide +kernel⟩
set_option maxHeartbeats 1000000 in
theorem ok_joinends {f : Addr} {fd : FuncData} (B : Bt K mg a_BOUNDS a_LONG_BOUNDS tL tM) (Dd : Df K mg "_ends_of_join" s__ends_of_join ["parts", "letters", "rows"] f fd) (G_link : Cl P w K mg base 1 "_link" ["rows", "ends", "begins"] (spLink K)) (n k : Nat) (hk1 : 1 ≤ k) (G_ends_of : Cl P w K mg base k "_ends_of" ["part", "letters", "rows"] (spEnds n)) : FnOk P w K mg base CX0 (k + 1) f fd ["parts", "letters", "rows"] (spRow n gl.glJ) := by
  refine Dd.F.ok sc__ends_of_join (fun vs H Q Ex h => ?_) (fun cdv A outer s H vs Q Ex hr h => ?_)
  · obtain ⟨H0, p, la, ra, xs, es, cs, F, rfl, _⟩ := h
    rfl
  obtain ⟨H0, p, la, ra, xs, es, cs, F, rfl, hp, hX, hes, hP, q⟩ := h
  obtain ⟨hne, hLe, hRw, hk0, hnl, hnr, hsz⟩ := hP
  refine ⟨_, (pss_cons (ps_par3 (i := 3) (j := 4) (l := 5) rfl sc__ends_of_join.nd rfl rfl rfl (by decide) (by decide) (by decide) rfl rfl rfl (pa_cons pe_bl (pa_cons (pe_lst pa_nil) (pa_cons (pe_lst pa_nil) pa_nil))) (by rfl))
    (pss_cons (ps_for PassesOwn.never rfl (pi_tup (pv 0)) (pg_name (i := 6) sc__ends_of_join.nd rfl (Or.inl rfl)) (pss_cons (ps_asg (pe_cl G_ends_of (hr.mono (by omega)) rfl (pa_cons (pv 6) (pa_cons (pv 1) (pa_cons (pv 2) pa_nil)))) (pg_tup rfl (pgs_cons (pg_name (i := 7) sc__ends_of_join.nd rfl (Or.inl rfl)) (pgs_cons (pg_name (i := 8) sc__ends_of_join.nd rfl (Or.inl rfl)) (pgs_cons (pg_name (i := 9) sc__ends_of_join.nd rfl (Or.inl rfl)) pgs_nil)))))
    (pss_cons (ps_expr (pe_cl G_link (hr.mono (by omega)) rfl (pa_cons (pv 2) (pa_cons (pv 5) (pa_cons (pv 8) pa_nil)))))
    (C8.pss_cut (ps_if (pt_truth (pv 3) (by intro _; rfl)) (pss_one (ps_set (i := 4) sc__ends_of_join.nd rfl (Or.inl rfl) (pe_op op_cat (pv 4) (pv 8)))) pss_nil)
    (C8.pss_cut (ps_set (i := 5) sc__ends_of_join.nd rfl (Or.inl rfl) (pe_ifExp (pt_truth (pv 7) (by intro _; rfl)) (pe_op op_cat (pv 5) (pv 9)) (pv 9)))
    (pss_one (ps_set (i := 3) sc__ends_of_join.nd rfl (Or.inl rfl) (pe_and (pv 3) (pe_one (pv 7))))))))))
    (pss_one (ps_ret (pe_tup (pa_cons (pv 3) (pa_cons (pv 4) (pa_cons (pv 5) pa_nil)))))))), ?_⟩
  have hl := hX.len
  rw [List.length_map] at hl
  obtain ⟨xr, hxr⟩ := hRw.isl
  refine ⟨Nat.zero_le _, fun f0 hf0 => ⟨Nat.zero_le _, fun l0 hl0 => ⟨_, _, _, rfl, ?_⟩⟩⟩
  have s0 := (same_upd (o := .lst []) hf0).trans (same_upd (o := .lst []) hl0)
  refine ⟨_, rfl, p, rfl, ⟨_, SqT.of (s0 _ _ hp)⟩, for_tup (K := K) (a := p) (xs := xs) (fun i σ' H' => ∃ (f l : Addr) (o1 o2 o3 o4 : Option V), σ' = [some (.ref p), some (.ref la), some (.ref ra), some (.bl (gl.glJ (es.take i) cs.length).nul), some (.ref f), some (.ref l), o1, o2, o3, o4] ∧ EndsR H0 H H' la ra cs (E.letters.letterss (es.take i)) (E.places.placess (es.take i)) F (gl.glJ (es.take i) cs.length) f l)
    ⟨f0, l0, none, none, none, none, rfl, ⟨Fr.same s0, s0 _ _ (by show H la = _; rw [List.take_zero]; show H la = some (.lst ((cs ++ []).map _)); rw [List.append_nil]; exact hLe), hk0.trans s0, (hRw.same s0).eqv fun i j => ⟨.inl, fun h => h.elim id fun h => by cases h⟩, (same_upd hl0) _ _ upd_same, upd_same, (ne_of_none hLe hf0).symm, (ne_of_none hxr hf0).symm, (ne_of_none ((same_upd hf0) _ _ hLe) hl0).symm, (ne_of_none ((same_upd hf0) _ _ hxr) hl0).symm⟩⟩
    (fun i σ' H' _ h => ?_) (fun i y σ' H' hi h => ?_) (fun σ' H' h => ?_)⟩
  · obtain ⟨f, l, o1, o2, o3, o4, _, hR⟩ := h
    refine SqT.of (hR.fr _ _ hp (fun c => ?_) (fun c => ?_) fun kvs c => by cases c)
    · rw [c] at hp
      have : H la = some (.lst (cs.map fun c => V.str ⟨#[c]⟩)) := hLe
      rw [this] at hp
      cases hp
    · rw [c, hxr] at hp
      cases hp
  · obtain ⟨f, l, o1, o2, o3, o4, rfl, hR⟩ := h
    obtain ⟨d, hd1, hxd⟩ := hX.get hi
    rw [List.getElem?_map] at hd1
    obtain ⟨e, he, rfl⟩ := Option.map_eq_some_iff.mp hd1
    have hem := List.mem_of_getElem? he
    have hPers : Pers H H' := hR.fr.pers ⟨_, hLe⟩ ⟨_, hxr⟩ ⟨_, hR.le⟩ hR.rw.isl
    have hpl : E.places.placess (es.take (i + 1)) = E.places.placess (es.take i) + e.places := by rw [take_snoc he, placess_snoc]
    have hpt := placess_take es (i + 1)
    have hcl : (cs ++ E.letters.letterss (es.take i)).length = cs.length + E.places.placess (es.take i) := by rw [List.length_append, letterss_len]
    -- the part
    refine ⟨_, rfl, _, rfl, _, rfl, H0, y, la, ra, e, cs ++ E.letters.letterss (es.take i), _, rfl, (hes e hem).1, (hes e hem).2, hxd.pers hPers, ⟨hne, hR.le, by rw [hcl]; exact hR.rw, hR.k0, hnl, hnr, by rw [hcl]; omega⟩, fun t2 f2 l2 H2 ht2 hR2 => ?_⟩
    rw [hcl] at ht2 hR2
    refine ⟨t2, _, rfl, SqT.of ht2, rfl, _, _, rfl, _, _, rfl, _, _, rfl, rfl, ?_⟩
    -- the frame so far
    have W1 : Within (gl.glJ (es.take i) cs.length) cs.length (E.places.placess (es.take i)) := glJ_within _ _
    have W2 : Within (gl e (cs.length + E.places.placess (es.take i))) (cs.length + E.places.placess (es.take i)) e.places := gl_within _ _
    have hfst : H2 f = some (.lst (natsV (gl.glJ (es.take i) cs.length).fst)) := hR2.fr _ _ hR.fst hR.f1 hR.f2 fun kvs c => by cases c
    have hlst : H2 l = some (.lst (natsV (gl.glJ (es.take i) cs.length).lst)) := hR2.fr _ _ hR.lst hR.l1 hR.l2 fun kvs c => by cases c
    refine ⟨_, rfl, _, rfl, _, rfl, H0, ra, l, f2, _, _, _, _, rfl, hR2.rw, hlst, hR2.fst, fun x hx => by have := W1.lst x hx; omega, fun x hx => by have := W2.fst x hx; omega, fun H3 h3 h30 hRw3 => ?_⟩
    have nd : ∀ (xs : List V) kvs, HO.lst xs ≠ .dK kvs := fun _ _ c => by cases c
    have fst3 := h3 _ _ hfst (nd _)
    have lst3 := h3 _ _ hlst (nd _)
    have f23 := h3 _ _ hR2.fst (nd _)
    have l23 := h3 _ _ hR2.lst (nd _)
    have le3 : LetAt H3 la ((cs ++ E.letters.letterss (es.take i)) ++ e.letters) := h3 _ _ hR2.le (nd _)
    have fr3 : Fr la ra H H3 := (hR.fr.trans hR2.fr).trans fun b o hb h1 h2 h4 => h3 b o hb h4
    obtain ⟨x3, hx3⟩ := hRw3.isl
    have k03 : Same H0 H3 := fun b o hb => h30 b o hb (hR2.k0 b o hb)
    -- first
    refine ⟨fun σ' H' => ∃ f3 : Addr, σ' = [some (.ref p), some (.ref la), some (.ref ra), some (.bl (gl.glJ (es.take i) cs.length).nul), some (.ref f3), some (.ref l), some y, some (.bl (gl e (cs.length + E.places.placess (es.take i))).nul), some (.ref f2), some (.ref l2)] ∧ Same H3 H' ∧ f3 ≠ la ∧ f3 ≠ ra ∧ H' f3 = some (.lst (natsV ((gl.glJ (es.take i) cs.length).seq (gl e (cs.length + E.places.placess (es.take i)))).fst)), ?_, ?_⟩
    · refine ⟨_, rfl, _, rfl, ite2 (fun c => ?_) (fun c => ?_)⟩
      · refine ⟨_, rfl, _, rfl, f, f2, _, _, rfl, rfl, fst3, f23, ?_, fun f3 hf3 => ⟨f3, rfl, same_upd hf3, (ne_of_none le3 hf3).symm, (ne_of_none hx3 hf3).symm, ?_⟩⟩
        · rw [natsV_len, natsV_len]
          have a1 := (glJ_len (es.take i) cs.length).fst
          have a2 := (gl_len e (cs.length + E.places.placess (es.take i))).fst
          exact Nat.le_trans (m := 40) (by omega) (by decide)
        · rw [upd_same, natsV_app]
          unfold Gl.seq
          rw [if_pos c]
      · refine ⟨f, rfl, Same.refl H3, hR.f1, hR.f2, ?_⟩
        rw [fst3]
        unfold Gl.seq
        rw [if_neg c, List.append_nil]
    rintro σ' H4 ⟨f3, rfl, s4, f3l, f3r, hf3⟩
    have lst4 := s4 _ _ lst3
    have l24 := s4 _ _ l23
    have le4 := s4 _ _ le3
    have hx4 := s4 _ _ hx3
    -- last
    refine ⟨fun σ' H' => ∃ l3 : Addr, σ' = [some (.ref p), some (.ref la), some (.ref ra), some (.bl (gl.glJ (es.take i) cs.length).nul), some (.ref f3), some (.ref l3), some y, some (.bl (gl e (cs.length + E.places.placess (es.take i))).nul), some (.ref f2), some (.ref l2)] ∧ Same H4 H' ∧ l3 ≠ la ∧ l3 ≠ ra ∧ H' l3 = some (.lst (natsV ((gl.glJ (es.take i) cs.length).seq (gl e (cs.length + E.places.placess (es.take i)))).lst)), ?_, ?_⟩
    · refine ⟨_, rfl, _, rfl, ite2 (fun c => ?_) (fun c => ?_)⟩
      · refine ⟨_, rfl, _, rfl, l, l2, _, _, rfl, rfl, lst4, l24, ?_, fun l3 hl3 => ⟨l3, rfl, same_upd hl3, (ne_of_none le4 hl3).symm, (ne_of_none hx4 hl3).symm, ?_⟩⟩
        · rw [natsV_len, natsV_len]
          have a1 := (glJ_len (es.take i) cs.length).lst
          have a2 := (gl_len e (cs.length + E.places.placess (es.take i))).lst
          exact Nat.le_trans (m := 40) (by omega) (by decide)
        · rw [upd_same, natsV_app]
          unfold Gl.seq
          rw [if_pos c]
      · refine ⟨_, rfl, l2, rfl, Same.refl H4, hR2.l1, hR2.l2, ?_⟩
        rw [l24]
        unfold Gl.seq
        rw [if_neg c, List.nil_append]
    rintro σ' H5 ⟨l3, rfl, s5, l3l, l3r, hl3⟩
    have S5 := s4.trans s5
    -- empty
    have fin : ∀ b : Bool, b = ((gl.glJ (es.take i) cs.length).seq (gl e (cs.length + E.places.placess (es.take i)))).nul → ∃ (f l : Addr) (o1 o2 o3 o4 : Option V), ([some (.ref p), some (.ref la), some (.ref ra), some (.bl b), some (.ref f3), some (.ref l3), some y, some (.bl (gl e (cs.length + E.places.placess (es.take i))).nul), some (.ref f2), some (.ref l2)] : L2.St) = [some (.ref p), some (.ref la), some (.ref ra), some (.bl (gl.glJ (es.take (i + 1)) cs.length).nul), some (.ref f), some (.ref l), o1, o2, o3, o4] ∧ EndsR H0 H H5 la ra cs (E.letters.letterss (es.take (i + 1))) (E.places.placess (es.take (i + 1))) F (gl.glJ (es.take (i + 1)) cs.length) f l := fun b hb => by
      have ev : Eqv ((gl.glJ (es.take i) cs.length).seq (gl e (cs.length + E.places.placess (es.take i)))) (gl.glJ (es.take (i + 1)) cs.length) := by
        have h := glJ_snoc (es.take i) e cs.length
        rw [← take_snoc he, ← placess_eq] at h
        exact ⟨h.nul.symm, h.fst.symm, h.lst.symm, fun x => (h.fol x).symm⟩
      refine ⟨f3, l3, _, _, _, _, by rw [hb, ev.nul], EndsR.eqv ev ⟨fr3.trans (Fr.same S5), ?_, k03.trans S5, ?_, s5 _ _ hf3, hl3, f3l, f3r, l3l, l3r⟩⟩
      · rw [take_snoc he, letterss_snoc, ← List.append_assoc]
        exact S5 _ _ le3
      · rw [hpl, ← Nat.add_assoc]
        rw [hcl] at hRw3
        refine (hRw3.same S5).eqv fun a b => ?_
        unfold Gl.seq
        simp only [List.mem_append, mem_prodL]
        constructor
        · rintro ((((h | h) | h) | h))
          · exact .inl h
          · exact .inr (.inl h)
          · exact .inr (.inr (.inr h))
          · exact .inr (.inr (.inl h))
        · rintro (h | h | h | h)
          · exact .inl (.inl (.inl h))
          · exact .inl (.inl (.inr h))
          · exact .inr h
          · exact .inl (.inr h)
    refine ⟨_, rfl, _, rfl, ite2 (fun c => ?_) (fun c => ?_)⟩
    · refine ⟨_, rfl, fin _ ?_⟩
      show _ = ((gl.glJ (es.take i) cs.length).nul && (gl e (cs.length + E.places.placess (es.take i))).nul)
      rw [c, Bool.true_and]
    · refine fin _ ?_
      show false = ((gl.glJ (es.take i) cs.length).nul && (gl e (cs.length + E.places.placess (es.take i))).nul)
      rw [Bool.eq_false_iff.mpr c, Bool.false_and]
  · obtain ⟨f, l, o1, o2, o3, o4, rfl, hR⟩ := h
    rw [hl, List.take_length] at hR
    refine ⟨_, rfl, _, rfl, _, rfl, (by show 3 ≤ sizeLine; decide), fun t ht => ?_⟩
    refine q t f l _ ?_ (hR.same (same_upd ht))
    rw [upd_same, hl, List.take_length]
abbrev N__ends_of_or : List Str := ["parts", "letters", "rows", "empty", "first", "last", "part", "part_empty", "part_first", "part_last"]
theorem sc__ends_of_or : FnScope ["parts", "letters", "rows", "empty", "first", "last", "part", "part_empty", "part_first", "part_last"] ["parts", "letters", "rows"] (defScope s__ends_of_or) := ⟨rfl, rfl, rfl, by decide +kernel, rfl, by decide +kernel, by decide +kernel⟩
set_option maxHeartbeats 1000000 in
theorem ok_orends {f : Addr} {fd : FuncData} (B : Bt K mg a_BOUNDS a_LONG_BOUNDS tL tM) (Dd : Df K mg "_ends_of_or" s__ends_of_or ["parts", "letters", "rows"] f fd) (n k : Nat) (G_ends_of : Cl P w K mg base k "_ends_of" ["part", "letters", "rows"] (spEnds n)) : FnOk P w K mg base CX0 (k + 1) f fd ["parts", "letters", "rows"] (spRow n gl.glA) := by
  refine Dd.F.ok sc__ends_of_or (fun vs H Q Ex h => ?_) (fun cdv A outer s H vs Q Ex hr h => ?_)
  · obtain ⟨H0, p, la, ra, xs, es, cs, F, rfl, _⟩ := h
    rfl
  obtain ⟨H0, p, la, ra, xs, es, cs, F, rfl, hp, hX, hes, hP, q⟩ := h
  obtain ⟨hne, hLe, hRw, hk0, hnl, hnr, hsz⟩ := hP
  refine ⟨_, (pss_cons (ps_par3 (i := 3) (j := 4) (l := 5) rfl sc__ends_of_or.nd rfl rfl rfl (by decide) (by decide) (by decide) rfl rfl rfl (pa_cons pe_bl (pa_cons (pe_lst pa_nil) (pa_cons (pe_lst pa_nil) pa_nil))) (by rfl))
    (pss_cons (ps_for PassesOwn.never rfl (pi_tup (pv 0)) (pg_name (i := 6) sc__ends_of_or.nd rfl (Or.inl rfl)) (pss_cons (ps_asg (pe_cl G_ends_of (hr.mono (by omega)) rfl (pa_cons (pv 6) (pa_cons (pv 1) (pa_cons (pv 2) pa_nil)))) (pg_tup rfl (pgs_cons (pg_name (i := 7) sc__ends_of_or.nd rfl (Or.inl rfl)) (pgs_cons (pg_name (i := 8) sc__ends_of_or.nd rfl (Or.inl rfl)) (pgs_cons (pg_name (i := 9) sc__ends_of_or.nd rfl (Or.inl rfl)) pgs_nil)))))
    (pss_cons (ps_set (i := 4) sc__ends_of_or.nd rfl (Or.inl rfl) (pe_op op_cat (pv 4) (pv 8)))
    (pss_cons (ps_set (i := 5) sc__ends_of_or.nd rfl (Or.inl rfl) (pe_op op_cat (pv 5) (pv 9)))
    (pss_one (ps_set (i := 3) sc__ends_of_or.nd rfl (Or.inl rfl) (pe_or (pv 3) (pe_one (pv 7)))))))))
    (pss_one (ps_ret (pe_tup (pa_cons (pv 3) (pa_cons (pv 4) (pa_cons (pv 5) pa_nil)))))))), ?_⟩
  have hl := hX.len
  rw [List.length_map] at hl
  obtain ⟨xr, hxr⟩ := hRw.isl
  refine ⟨Nat.zero_le _, fun f0 hf0 => ⟨Nat.zero_le _, fun l0 hl0 => ⟨_, _, _, rfl, ?_⟩⟩⟩
  have s0 := (same_upd (o := .lst []) hf0).trans (same_upd (o := .lst []) hl0)
  refine ⟨_, rfl, p, rfl, ⟨_, SqT.of (s0 _ _ hp)⟩, for_tup (K := K) (a := p) (xs := xs) (fun i σ' H' => ∃ (f l : Addr) (o1 o2 o3 o4 : Option V), σ' = [some (.ref p), some (.ref la), some (.ref ra), some (.bl (gl.glA (es.take i) cs.length).nul), some (.ref f), some (.ref l), o1, o2, o3, o4] ∧ EndsR H0 H H' la ra cs (E.letters.letterss (es.take i)) (E.places.placess (es.take i)) F (gl.glA (es.take i) cs.length) f l)
    ⟨f0, l0, none, none, none, none, rfl, ⟨Fr.same s0, s0 _ _ (by show H la = _; rw [List.take_zero]; show H la = some (.lst ((cs ++ []).map _)); rw [List.append_nil]; exact hLe), hk0.trans s0, (hRw.same s0).eqv fun i j => ⟨.inl, fun h => h.elim id fun h => by cases h⟩, (same_upd hl0) _ _ upd_same, upd_same, (ne_of_none hLe hf0).symm, (ne_of_none hxr hf0).symm, (ne_of_none ((same_upd hf0) _ _ hLe) hl0).symm, (ne_of_none ((same_upd hf0) _ _ hxr) hl0).symm⟩⟩
    (fun i σ' H' _ h => ?_) (fun i y σ' H' hi h => ?_) (fun σ' H' h => ?_)⟩
  · obtain ⟨f, l, o1, o2, o3, o4, _, hR⟩ := h
    refine SqT.of (hR.fr _ _ hp (fun c => ?_) (fun c => ?_) fun kvs c => by cases c)
    · rw [c] at hp
      have : H la = some (.lst (cs.map fun c => V.str ⟨#[c]⟩)) := hLe
      rw [this] at hp
      cases hp
    · rw [c, hxr] at hp
      cases hp
  · obtain ⟨f, l, o1, o2, o3, o4, rfl, hR⟩ := h
    obtain ⟨d, hd1, hxd⟩ := hX.get hi
    rw [List.getElem?_map] at hd1
    obtain ⟨e, he, rfl⟩ := Option.map_eq_some_iff.mp hd1
    have hem := List.mem_of_getElem? he
    have hPers : Pers H H' := hR.fr.pers ⟨_, hLe⟩ ⟨_, hxr⟩ ⟨_, hR.le⟩ hR.rw.isl
    have hpl : E.places.placess (es.take (i + 1)) = E.places.placess (es.take i) + e.places := by rw [take_snoc he, placess_snoc]
    have hpt := placess_take es (i + 1)
    have hcl : (cs ++ E.letters.letterss (es.take i)).length = cs.length + E.places.placess (es.take i) := by rw [List.length_append, letterss_len]
    refine ⟨_, rfl, _, rfl, _, rfl, H0, y, la, ra, e, cs ++ E.letters.letterss (es.take i), _, rfl, (hes e hem).1, (hes e hem).2, hxd.pers hPers, ⟨hne, hR.le, by rw [hcl]; exact hR.rw, hR.k0, hnl, hnr, by rw [hcl]; omega⟩, fun t2 f2 l2 H2 ht2 hR2 => ?_⟩
    rw [hcl] at ht2 hR2
    refine ⟨t2, _, rfl, SqT.of ht2, rfl, _, _, rfl, _, _, rfl, _, _, rfl, rfl, ?_⟩
    have hfst : H2 f = some (.lst (natsV (gl.glA (es.take i) cs.length).fst)) := hR2.fr _ _ hR.fst hR.f1 hR.f2 fun kvs c => by cases c
    have hlst : H2 l = some (.lst (natsV (gl.glA (es.take i) cs.length).lst)) := hR2.fr _ _ hR.lst hR.l1 hR.l2 fun kvs c => by cases c
    obtain ⟨x2, hx2⟩ := hR2.rw.isl
    refine ⟨_, rfl, _, rfl, f, f2, _, _, rfl, rfl, hfst, hR2.fst, ?_, fun f3 hf3 => ?_⟩
    · rw [natsV_len, natsV_len]
      have a1 := (glA_len (es.take i) cs.length).fst
      have a2 := (gl_len e (cs.length + E.places.placess (es.take i))).fst
      exact Nat.le_trans (m := 40) (by omega) (by decide)
    have s3 := same_upd (o := .lst (natsV (gl.glA (es.take i) cs.length).fst ++ natsV (gl e (cs.length + E.places.placess (es.take i))).fst)) hf3
    refine ⟨_, rfl, _, rfl, l, l2, _, _, rfl, rfl, s3 _ _ hlst, s3 _ _ hR2.lst, ?_, fun l3 hl3 => ?_⟩
    · rw [natsV_len, natsV_len]
      have a1 := (glA_len (es.take i) cs.length).lst
      have a2 := (gl_len e (cs.length + E.places.placess (es.take i))).lst
      exact Nat.le_trans (m := 40) (by omega) (by decide)
    have S3 := s3.trans (same_upd (o := .lst (natsV (gl.glA (es.take i) cs.length).lst ++ natsV (gl e (cs.length + E.places.placess (es.take i))).lst)) hl3)
    have fin : ∀ b : Bool, b = ((gl.glA (es.take i) cs.length).par (gl e (cs.length + E.places.placess (es.take i)))).nul → ∃ (f l : Addr) (o1 o2 o3 o4 : Option V), ([some (.ref p), some (.ref la), some (.ref ra), some (.bl b), some (.ref f3), some (.ref l3), some y, some (.bl (gl e (cs.length + E.places.placess (es.take i))).nul), some (.ref f2), some (.ref l2)] : L2.St) = [some (.ref p), some (.ref la), some (.ref ra), some (.bl (gl.glA (es.take (i + 1)) cs.length).nul), some (.ref f), some (.ref l), o1, o2, o3, o4] ∧ EndsR H0 H _ la ra cs (E.letters.letterss (es.take (i + 1))) (E.places.placess (es.take (i + 1))) F (gl.glA (es.take (i + 1)) cs.length) f l := fun b hb => by
      have ev : (gl.glA (es.take i) cs.length).par (gl e (cs.length + E.places.placess (es.take i))) = gl.glA (es.take (i + 1)) cs.length := by
        have h := glA_snoc (es.take i) e cs.length
        rw [← take_snoc he, ← placess_eq] at h
        exact h.symm
      rw [ev] at hb
      refine ⟨f3, l3, _, _, _, _, by rw [hb], ⟨(hR.fr.trans hR2.fr).trans (Fr.same S3), ?_, hR2.k0.trans S3, ?_, ?_, ?_, (ne_of_none hR2.le hf3).symm, (ne_of_none hx2 hf3).symm, (ne_of_none (s3 _ _ hR2.le) hl3).symm, (ne_of_none (s3 _ _ hx2) hl3).symm⟩⟩
      · rw [take_snoc he, letterss_snoc, ← List.append_assoc]
        exact S3 _ _ hR2.le
      · rw [hpl, ← Nat.add_assoc, ← ev]
        have hrw2 := hR2.rw
        rw [hcl] at hrw2
        refine (hrw2.same S3).eqv fun a b => ?_
        unfold Gl.par
        simp only [List.mem_append]
        constructor
        · rintro ((h | h) | h)
          · exact .inl h
          · exact .inr (.inl h)
          · exact .inr (.inr h)
        · rintro (h | h | h)
          · exact .inl (.inl h)
          · exact .inl (.inr h)
          · exact .inr h
      · rw [← ev]
        show _ = some (HO.lst (natsV ((gl.glA (es.take i) cs.length).fst ++ (gl e (cs.length + E.places.placess (es.take i))).fst)))
        rw [← natsV_app]
        exact (same_upd hl3) _ _ upd_same
      · rw [← ev]
        show _ = some (HO.lst (natsV ((gl.glA (es.take i) cs.length).lst ++ (gl e (cs.length + E.places.placess (es.take i))).lst)))
        rw [← natsV_app]
        exact upd_same
    refine ⟨_, rfl, _, rfl, ite2 (fun c => ?_) (fun c => ?_)⟩
    · refine fin _ ?_
      show true = ((gl.glA (es.take i) cs.length).nul || (gl e (cs.length + E.places.placess (es.take i))).nul)
      rw [c, Bool.true_or]
    · refine ⟨_, rfl, fin _ ?_⟩
      show _ = ((gl.glA (es.take i) cs.length).nul || (gl e (cs.length + E.places.placess (es.take i))).nul)
      rw [Bool.eq_false_iff.mpr c, Bool.false_or]
  · obtain ⟨f, l, o1, o2, o3, o4, rfl, hR⟩ := h
    rw [hl, List.take_length] at hR
    refine ⟨_, rfl, _, rfl, _, rfl, (by show 3 ≤ sizeLine; decide), fun t ht => ?_⟩
    refine q t f l _ ?_ (hR.same (same_upd ht))
    rw [upd_same, hl, List.take_length]
abbrev N__ends_of : List Str := ["part", "letters", "rows", "word", "inner", "_", "first", "last"]
theorem sc__ends_of : FnScope ["part", "letters", "rows", "word", "inner", "_", "first", "last"] ["part", "letters", "rows"] (defScope s__ends_of) := ⟨rfl, rfl, rfl, by decide +kernel, rfl, by decide +kernel, by decide +kernel⟩
set_option maxHeartbeats 1000000 in
theorem ok_ends_step {f : Addr} {fd : FuncData} (B : Bt K mg a_BOUNDS a_LONG_BOUNDS tL tM) (Dd : Df K mg "_ends_of" s__ends_of ["part", "letters", "rows"] f fd) (G_link : Cl P w K mg base 1 "_link" ["rows", "ends", "begins"] (spLink K)) (G_ends_of_leaf : Cl P w K mg base 1 "_ends_of_leaf" ["part", "letters", "rows"] spLeaf) (n k : Nat) (hk : 1 ≤ k)
    (G_ends_of : Cl P w K mg base k "_ends_of" ["part", "letters", "rows"] (spEnds n)) (G_ends_of_join : Cl P w K mg base (k + 1) "_ends_of_join" ["parts", "letters", "rows"] (spRow n gl.glJ)) (G_ends_of_or : Cl P w K mg base (k + 1) "_ends_of_or" ["parts", "letters", "rows"] (spRow n gl.glA)) : FnOk P w K mg base CX0 (k + 2) f fd ["part", "letters", "rows"] (spEnds (n + 1)) := by
  refine Dd.F.ok sc__ends_of (fun vs H Q Ex h => ?_) (fun cdv A outer s H vs Q Ex hr h => ?_)
  · obtain ⟨H0, v, la, ra, e, cs, F, rfl, _⟩ := h
    rfl
  obtain ⟨H0, v, la, ra, e, cs, F, rfl, hok, hd, hR, hP, q⟩ := h
  refine ⟨_, (pss_cons (ps_if (pt_val (pe_callB call_isi rfl B.b_isinstance boot_isinstance (pa_cons (pv 0) (pa_cons (pe_bltn (v := .ty "str") rfl B.b_str boot_str rfl) pa_nil)))) (pss_one (ps_ret (pe_cl G_ends_of_leaf (hr.mono (by omega)) rfl (pa_cons (pv 0) (pa_cons (pv 1) (pa_cons (pv 2) pa_nil)))))) pss_nil)
    (pss_cons (ps_asg (pv 0) (pg_tup rfl (pgs_cons (pg_name (i := 3) sc__ends_of.nd rfl (Or.inl rfl)) (pgs_cons (pg_name (i := 4) sc__ends_of.nd rfl (Or.inl rfl)) pgs_nil))))
    (pss_cons (ps_if (pt_cmpR op_eq (pv 3) pe_str (nomark _)) (pss_one (ps_ret (pe_cl G_ends_of_join (hr.mono (by omega)) rfl (pa_cons (pv 4) (pa_cons (pv 1) (pa_cons (pv 2) pa_nil)))))) pss_nil)
    (pss_cons (ps_if (pt_cmpR op_eq (pv 3) pe_str (nomark _)) (pss_one (ps_ret (pe_cl G_ends_of_or (hr.mono (by omega)) rfl (pa_cons (pv 4) (pa_cons (pv 1) (pa_cons (pv 2) pa_nil)))))) pss_nil)
    (pss_cons (ps_asg (pe_cl G_ends_of (hr.mono (by omega)) rfl (pa_cons (pv 4) (pa_cons (pv 1) (pa_cons (pv 2) pa_nil)))) (pg_tup rfl (pgs_cons (pg_name (i := 5) sc__ends_of.nd rfl (Or.inl rfl)) (pgs_cons (pg_name (i := 6) sc__ends_of.nd rfl (Or.inl rfl)) (pgs_cons (pg_name (i := 7) sc__ends_of.nd rfl (Or.inl rfl)) pgs_nil)))))
    (pss_cons (ps_if (pt_cmpR op_eq (pv 3) pe_str (nomark _)) (pss_one (ps_expr (pe_cl G_link (hr.mono (by omega)) rfl (pa_cons (pv 2) (pa_cons (pv 7) (pa_cons (pv 6) pa_nil)))))) pss_nil)
    (pss_one (ps_ret (pe_tup (pa_cons pe_bl (pa_cons (pv 6) (pa_cons (pv 7) pa_nil)))))))))))), ?_⟩
  obtain ⟨t, ht, k1, _⟩ := hR.ty (K := K)
  refine ⟨_, rfl, _, _, _, _, _, rfl, .ty _, ht, k1, _, rfl, ite2 (fun e1 => ?_) (fun e1 => ?_)⟩
  · obtain ⟨z, rfl, hz⟩ : ∃ z, v = .str z ∧ ((z = sNo ∧ e = .eps) ∨ ∃ c, z = ⟨#[c]⟩ ∧ e = .sym c) := by
      cases e with
      | eps => rw [E.toD] at hR; cases hR; exact ⟨_, rfl, .inl ⟨rfl, rfl⟩⟩
      | sym c => rw [E.toD] at hR; cases hR; exact ⟨_, rfl, .inr ⟨c, rfl, rfl⟩⟩
      | maybe k => exact absurd e1 (by rw [E.toD]; intro c; cases c)
      | many k => exact absurd e1 (by rw [E.toD]; intro c; cases c)
      | join es => exact absurd e1 (by rw [E.toD]; intro c; cases c)
      | alt es => exact absurd e1 (by rw [E.toD]; intro c; cases c)
    exact ⟨_, rfl, _, rfl, _, rfl, H0, z, la, ra, e, cs, F, rfl, hz, hP, q⟩
  · obtain ⟨w, y, p, x, hlw, rfl, hp, hx, hk'⟩ := node_of hok hR e1
    refine ⟨_, rfl, p, _, rfl, SqT.of hp, rfl, _, _, rfl, _, _, rfl, rfl, ?_⟩
    refine ⟨_, rfl, rfl, _, rfl, ite2 (fun e2 => ?_) (fun e2 => ?_)⟩
    · have hw := vstr e2
      rcases hk' with (⟨h, k, rfl, rfl⟩ | ⟨h, k, rfl, rfl⟩) | ⟨h, es, rfl, hes, rfl⟩ | ⟨h, es, rfl, _, rfl⟩
      · exact absurd (hw.symm.trans h) jm
      · exact absurd (hw.symm.trans h) jn
      · obtain ⟨p2, xs, rfl, hp2, hz2, hX⟩ := hx.untup
        refine ⟨_, rfl, _, rfl, _, rfl, H0, p2, la, ra, xs, es, cs, F, rfl, hp2, hX, fun k hk => ⟨ok_kids hok k hk, ?_⟩, hP, q⟩
        have := depth_kids (.join es) k hk
        omega
      · exact absurd (hw.symm.trans h) jo
    refine ⟨_, rfl, rfl, _, rfl, ite2 (fun e3 => ?_) (fun e3 => ?_)⟩
    · have hw := vstr e3
      rcases hk' with (⟨h, k, rfl, rfl⟩ | ⟨h, k, rfl, rfl⟩) | ⟨h, es, rfl, hes, rfl⟩ | ⟨h, es, rfl, _, rfl⟩
      · exact absurd (hw.symm.trans h) om
      · exact absurd (hw.symm.trans h) on
      · exact absurd (h.symm.trans hw) jo
      · obtain ⟨p2, xs, rfl, hp2, hz2, hX⟩ := hx.untup
        refine ⟨_, rfl, _, rfl, _, rfl, H0, p2, la, ra, xs, es, cs, F, rfl, hp2, hX, fun k hk => ⟨ok_kids hok k hk, ?_⟩, hP, q⟩
        have := depth_kids (.alt es) k hk
        omega
    have hk2 := hk'.resolve_right fun c => c.elim (fun h => vstrN e2 h.1) (fun h => vstrN e3 h.1)
    obtain ⟨k0, hy, hok0, hd0, hpl, hle, hwk⟩ : ∃ k0 : E, y = k0.toD ∧ k0.ok = true ∧ k0.depth < n ∧ e.places = k0.places ∧ e.letters = k0.letters ∧ ((w = sMaybe ∧ e = .maybe k0) ∨ (w = sMany ∧ e = .many k0)) := by
      rcases hk2 with ⟨h, k, rfl, rfl⟩ | ⟨h, k, rfl, rfl⟩
      · rw [E.ok] at hok
        rw [E.depth] at hd
        exact ⟨k, rfl, hok, by omega, by rw [E.places], by rw [E.letters], .inl ⟨h, rfl⟩⟩
      · rw [E.ok] at hok
        rw [E.depth] at hd
        exact ⟨k, rfl, hok, by omega, by rw [E.places], by rw [E.letters], .inr ⟨h, rfl⟩⟩
    subst hy
    rw [hpl] at hP
    refine ⟨_, rfl, _, rfl, _, rfl, H0, x, la, ra, k0, cs, F, rfl, hok0, hd0, hx, hP, fun t2 f2 l2 H2 ht2 hR2 => ?_⟩
    refine ⟨t2, _, rfl, SqT.of ht2, rfl, _, _, rfl, _, _, rfl, _, _, rfl, rfl, ?_⟩
    have fin : ∀ H3, EndsR H0 H H3 la ra cs e.letters e.places F (gl e cs.length) f2 l2 → ([V.bl true, .ref f2, .ref l2].length ≤ sizeLine ∧ ∀ t, H3 t = none → Q (.ref t) (upd H3 t (.tup [V.bl true, .ref f2, .ref l2]))) := fun H3 h3 => ⟨(by show 3 ≤ sizeLine; decide), fun t ht => q t f2 l2 _ (by
      rw [upd_same]
      have : (gl e cs.length).nul = true := by rcases hwk with ⟨_, rfl⟩ | ⟨_, rfl⟩ <;> (rw [gl])
      rw [this]) (h3.same (same_upd ht))⟩
    refine ⟨_, rfl, rfl, _, rfl, ite2 (fun e4 => ?_) (fun e4 => ?_)⟩
    · have hw := vstr e4
      have hem : e = .many k0 := by
        rcases hwk with ⟨h, _⟩ | ⟨_, h⟩
        · exact absurd (h.symm.trans hw) mn
        · exact h
      have W := gl_within k0 cs.length
      have hsz := hP.sz
      refine ⟨_, rfl, _, rfl, _, rfl, H0, ra, l2, f2, _, _, _, _, rfl, hR2.rw, hR2.lst, hR2.fst, fun i hi => (W.lst i hi).2, fun j hj => by have := W.fst j hj; omega, fun H3 h3 h30 hRw3 => ?_⟩
      have nd : ∀ (xs : List V) kvs, HO.lst xs ≠ .dK kvs := fun _ _ c => by cases c
      refine ⟨_, rfl, _, rfl, fin H3 ?_⟩
      rw [hpl, hle]
      subst hem
      refine ⟨hR2.fr.trans fun b o hb h1 h2 h4 => h3 b o hb h4, h3 _ _ hR2.le (nd _), fun b o hb => h30 b o hb (hR2.k0 b o hb), hRw3.eqv fun i j => ?_, ?_, ?_, hR2.f1, hR2.f2, hR2.l1, hR2.l2⟩
      · rw [gl]
        show _ ↔ F i j ∨ (i, j) ∈ (gl k0 cs.length).fol ++ prodL (gl k0 cs.length).lst (gl k0 cs.length).fst
        rw [List.mem_append, mem_prodL, or_assoc]
      · rw [gl]
        exact h3 _ _ hR2.fst (nd _)
      · rw [gl]
        exact h3 _ _ hR2.lst (nd _)
    · have hw := vstrN e4
      have hem : e = .maybe k0 := by
        rcases hwk with ⟨_, h⟩ | ⟨h, _⟩
        · exact h
        · exact absurd h hw
      refine ⟨_, rfl, _, rfl, fin H2 ?_⟩
      rw [hpl, hle]
      subst hem
      refine ⟨hR2.fr, hR2.le, hR2.k0, hR2.rw.eqv fun i j => ?_, ?_, ?_, hR2.f1, hR2.f2, hR2.l1, hR2.l2⟩
      · rw [gl]
      · rw [gl]
        exact hR2.fst
      · rw [gl]
        exact hR2.lst
end
end My
namespace My
open PySem PySem.Spec PyProof.Rows L2
theorem boot_sorted : bootBuiltins "sorted" = some (.builtin "sorted") := by decide +kernel
def rTupOf (K : PySem.W.Frag) : List V → Hp → VK → Prop := fun xs H Q => ∃ p ys, xs = [.ref p] ∧ ((SqL K H p ys ∧ ∀ l, H l = none → Q (.ref l) (upd H l (.tup ys))) ∨ (SqT K H p ys ∧ Q (.ref p) H))
theorem call_tuple_ofK {X : Cx} : CallR X (.type "tuple") (rTupOf X.K) := call_tuple_of
theorem len_toList2 (z : Str) : z.cps.toList.length = z.length := Array.length_toList
theorem join_flat2 (ys : List Str) : (Txt.join sNo ys).cps.toList = (ys.map fun z => z.cps.toList).flatten := by
  rw [TL.join_eq]
  have e := TL.tl_join sNo ys
  have j : ∀ ps : List (List Nat), TL.joinL [] ps = ps.flatten := by
    intro ps
    induction ps with
    | nil => rfl
    | cons p ps ih =>
      cases ps with
      | nil => show p = (p :: []).flatten; simp
      | cons q r =>
        show p ++ ([] ++ TL.joinL [] (q :: r)) = _
        rw [ih]
        rfl
  have n : TL.tl sNo = [] := by decide +kernel
  rw [n, j] at e
  exact e
/-! ### a class's calls -/
structure Ck (P : Program) (w : World) (K : PySem.W.Frag) (mg : Str → Option Value) (base : Heap) (k : Nat) (x : Str) (ps : List Str) (sp : Sp) (C : Addr) : Prop where
  ex : ∃ (f : Addr) (fd : FuncData), Mk K C f ∧ FnOk P w K mg base CX0 k f fd ps sp ∧ Binds K fd ps [] ∧ mg x = some (.ref C)
theorem pe_mk {X : Cx} {k : Nat} {x : Str} {ps : List Str} {sp : Sp} {C : Addr} {p pos : Pos} {e : Expr} {es : List Expr} {t : TA} (h : Ck X.prog X.w X.K X.mg X.base k x ps sp C) (hr : Room (k + 1) X.A) (hg : L2.Gl X x) (ha : PA X (e :: es) t)
    (hdb : (x == ("__debug__" : Str)) = false := by decide) (he : starEach (e :: es) X.env = (false, eval e X.env) :: starEach es X.env := by rfl) (hpl : (backTo pos (starEach es X.env)).any (·.1) = false := by rfl) :
    PE X (.Call (.Name x p) (e :: es) [] pos) (tMake C sp [] E0 t) := by
  obtain ⟨f, fd, M, F, b, m⟩ := h.ex
  exact pe_make M F hr hg m b .nil pass0 ha hdb he hpl
/-! ### the object that tells the steps -/
theorem n1 : ¬ (("letters" : Str) = "empty") := by decide +kernel
theorem n2 : ¬ (("letters" : Str) = "first") := by decide +kernel
theorem n3 : ¬ (("letters" : Str) = "last") := by decide +kernel
theorem n4 : ¬ (("letters" : Str) = "following") := by decide +kernel
theorem n5 : ¬ (("empty" : Str) = "first") := by decide +kernel
theorem n6 : ¬ (("empty" : Str) = "last") := by decide +kernel
theorem n7 : ¬ (("empty" : Str) = "following") := by decide +kernel
theorem n8 : ¬ (("first" : Str) = "last") := by decide +kernel
theorem n9 : ¬ (("first" : Str) = "following") := by decide +kernel
theorem n0 : ¬ (("last" : Str) = "following") := by decide +kernel
def stF (z b f l o : V) : List (Str × V) := putF "following" o (putF "last" l (putF "first" f (putF "empty" b (putF "letters" z []))))
theorem stF_letters (z b f l o : V) : (stF z b f l o).lookup ("letters" : Str) = some z := by
  unfold stF
  rw [lookup_putF, if_neg n4, lookup_putF, if_neg n3, lookup_putF, if_neg n2, lookup_putF, if_neg n1, lookup_putF, if_pos rfl]
theorem stF_first (z b f l o : V) : (stF z b f l o).lookup ("first" : Str) = some f := by
  unfold stF
  rw [lookup_putF, if_neg n9, lookup_putF, if_neg n8, lookup_putF, if_pos rfl]
theorem stF_last (z b f l o : V) : (stF z b f l o).lookup ("last" : Str) = some l := by
  unfold stF
  rw [lookup_putF, if_neg n0, lookup_putF, if_pos rfl]
theorem stF_following (z b f l o : V) : (stF z b f l o).lookup ("following" : Str) = some o := by
  unfold stF
  rw [lookup_putF, if_pos rfl]
theorem putF_len (f : Str) (v : V) : ∀ fs : List (Str × V), (putF f v fs).length ≤ fs.length + 1
  | [] => Nat.le_refl _
  | (g, x) :: r => by
    have := putF_len f v r
    unfold putF
    split
    · exact Nat.le_succ _
    · rw [List.length_cons, List.length_cons]; omega
structure StTxt (K : PySem.W.Frag) (C : Addr) : Prop where
  cl : Cls K C
  a1 : NoAttr K C "letters"
  a2 : NoAttr K C "empty"
  a3 : NoAttr K C "first"
  a4 : NoAttr K C "last"
  a5 : NoAttr K C "following"
def spInit (C : Addr) : Sp := fun vs H Q _ => ∃ (p dx : Addr) (z b f l o : V), vs = [.ref p, z, b, f, l, o] ∧ H p = some (.ins C dx []) ∧ ∀ H' : Hp, H' p = some (.ins C dx (stF z b f l o)) → (∀ q u, H q = some u → q ≠ p → H' q = some u) → Q .non H'
def folAt (e : E) (i : Nat) : List Nat := (List.range e.places).filter fun j => decide ((i, j) ∈ (gl e 0).fol)
structure StepsAt (C : Addr) (H : Hp) (p : Addr) (e : E) : Prop where
  ex : ∃ (dx f l o : Addr) (z : Str) (ts : List V), H p = some (.ins C dx (stF (.str z) (.bl (gl e 0).nul) (.ref f) (.ref l) (.ref o))) ∧ z.cps.toList = e.letters ∧ H f = some (.tup (natsV (gl e 0).fst)) ∧ H l = some (.tup (natsV (gl e 0).lst)) ∧ H o = some (.lst ts) ∧ ts.length = e.places ∧
    ∀ i t, ts[i]? = some t → ∃ q, t = .ref q ∧ H q = some (.tup (natsV (folAt e i)))
theorem StepsAt.same {C : Addr} {H H' : Hp} {p : Addr} {e : E} (s : Same H H') (h : StepsAt C H p e) : StepsAt C H' p e := by
  obtain ⟨dx, f, l, o, z, ts, h1, h2, h3, h4, h5, h6, h7⟩ := h.ex
  refine ⟨dx, f, l, o, z, ts, s _ _ h1, h2, s _ _ h3, s _ _ h4, s _ _ h5, h6, fun i t ht => ?_⟩
  obtain ⟨q, a, b⟩ := h7 i t ht
  exact ⟨q, a, s _ _ b⟩
def spSteps (C : Addr) : Sp := fun vs H Q _ => ∃ (v : V) (e : E), vs = [v] ∧ e.ok = true ∧ e.depth < 42 ∧ e.places ≤ 40 ∧ Rep H v e.toD ∧ ∀ p H', Same H H' → StepsAt C H' p e → Q (.ref p) H'
/-- strictly rising lists with the same members -/
theorem eq_of_rise : ∀ (a b : List Int), a.Pairwise (· < ·) → b.Pairwise (· < ·) → (∀ x, x ∈ a ↔ x ∈ b) → a = b
  | [], [], _, _, _ => rfl
  | [], y :: b, _, _, h => by have := (h y).mpr (List.mem_cons_self ..); cases this
  | x :: a, [], _, _, h => by have := (h x).mp (List.mem_cons_self ..); cases this
  | x :: a, y :: b, ha, hb, h => by
    rw [List.pairwise_cons] at ha hb
    have e : x = y := by
      rcases List.mem_cons.mp ((h x).mp (List.mem_cons_self ..)) with c | c
      · exact c
      · rcases List.mem_cons.mp ((h y).mpr (List.mem_cons_self ..)) with d | d
        · exact d.symm
        · have := hb.1 x c
          have := ha.1 y d
          omega
    subst e
    rw [eq_of_rise a b ha.2 hb.2 fun z => ?_]
    constructor
    · intro hz
      rcases List.mem_cons.mp ((h z).mp (List.mem_cons_of_mem _ hz)) with c | c
      · have := ha.1 z hz
        omega
      · exact c
    · intro hz
      rcases List.mem_cons.mp ((h z).mpr (List.mem_cons_of_mem _ hz)) with c | c
      · have := hb.1 z hz
        omega
      · exact c
theorem rise_of {ks ys : List Int} (h : ys.Perm ks) (s : ys.Pairwise (· ≤ ·)) (n : ks.Nodup) : ys.Pairwise (· < ·) := by
  have n' : ys.Nodup := h.nodup_iff.mpr n
  exact (s.and n').imp fun ⟨a, b⟩ => by omega
theorem fol_rise (e : E) (i : Nat) : ((folAt e i).map fun (j : Nat) => (j : Int)).Pairwise (· < ·) := by
  rw [List.pairwise_map]
  unfold folAt
  refine (List.pairwise_lt_range.filter _).imp fun h => by omega
theorem natsV_int (xs : List Nat) : natsV xs = (xs.map fun (j : Nat) => (j : Int)).map V.int := by
  unfold natsV
  rw [List.map_map]
  rfl
section
variable {P : Program} {w : World} {K : PySem.W.Frag} {mg : Str → Option Value} {base : Heap} {a_BOUNDS a_LONG_BOUNDS : Addr} {tL tM : Tok}
abbrev N_Steps___init__ : List Str := ["self", "letters", "empty", "first", "last", "following"]
theorem sc_Steps___init__ : FnScope ["self", "letters", "empty", "first", "last", "following"] ["self", "letters", "empty", "first", "last", "following"] (defScope s_Steps___init__) := ⟨rfl, rfl, rfl, by decide +kernel, rfl, by decide +kernel, by decide +kernel⟩
theorem ok_stepsinit {C f : Addr} {fd : FuncData} (F : Fun K "__init__" "Steps.__init__" s_Steps___init__ f fd) (T : StTxt K C) : FnOk P w K mg base CX0 1 f fd ["self", "letters", "empty", "first", "last", "following"] (spInit C) := by
  refine F.ok sc_Steps___init__ (fun vs H Q Ex h => ?_) (fun cdv A outer s H vs Q Ex hr h => ?_)
  · obtain ⟨p, dx, z, b, f, l, o, rfl, _⟩ := h
    rfl
  obtain ⟨p, dx, z, b, f, l, o, rfl, hp, q⟩ := h
  refine ⟨_, (pss_cons (ps_fld (pv 0) (pv 1) rfl)
    (pss_cons (ps_fld (pv 0) (pv 2) rfl)
    (pss_cons (ps_fld (pv 0) (pv 3) rfl)
    (pss_cons (ps_fld (pv 0) (pv 4) rfl)
    (pss_one (ps_fld (pv 0) (pv 5) rfl)))))), ?_⟩
  have L0 : (putF "letters" z ([] : List (Str × V))).length ≤ 1 := putF_len _ _ _
  have L1 := putF_len "empty" b (putF "letters" z [])
  have L2' := putF_len "first" f (putF "empty" b (putF "letters" z []))
  have L3 := putF_len "last" l (putF "first" f (putF "empty" b (putF "letters" z [])))
  refine ⟨_, rfl, _, rfl, p, C, dx, _, rfl, hp, T.cl, T.a1, (by show 0 < 1000; decide), ?_⟩
  refine ⟨_, rfl, _, rfl, p, C, dx, _, rfl, upd_same, T.cl, T.a2, (by omega), ?_⟩
  refine ⟨_, rfl, _, rfl, p, C, dx, _, rfl, upd_same, T.cl, T.a3, (by omega), ?_⟩
  refine ⟨_, rfl, _, rfl, p, C, dx, _, rfl, upd_same, T.cl, T.a4, (by omega), ?_⟩
  refine ⟨_, rfl, _, rfl, p, C, dx, _, rfl, upd_same, T.cl, T.a5, (by omega), ?_⟩
  exact q _ upd_same fun x u hx hn => by rw [upd_ne hn, upd_ne hn, upd_ne hn, upd_ne hn, upd_ne hn]; exact hx
abbrev N_steps_of : List Str := ["expression", "letters", "rows", "empty", "first", "last", "following", "row"]
theorem sc_steps_of : FnScope ["expression", "letters", "rows", "empty", "first", "last", "following", "row"] ["expression"] (defScope s_steps_of) := ⟨rfl, rfl, rfl, by decide +kernel, rfl, by decide +kernel, by decide +kernel⟩
set_option maxHeartbeats 1000000 in
theorem ok_stepsof {C f : Addr} {fd : FuncData} (B : Bt K mg a_BOUNDS a_LONG_BOUNDS tL tM) (Dd : Df K mg "steps_of" s_steps_of ["expression"] f fd) (G_ends_of : Cl P w K mg base 86 "_ends_of" ["part", "letters", "rows"] (spEnds 42)) (MSteps : Ck P w K mg base 1 "Steps" ["self", "letters", "empty", "first", "last", "following"] (spInit C) C) : FnOk P w K mg base CX0 87 f fd ["expression"] (spSteps C) := by
  refine Dd.F.ok sc_steps_of (fun vs H Q Ex h => ?_) (fun cdv A outer s H vs Q Ex hr h => ?_)
  · obtain ⟨v, e, rfl, _⟩ := h
    rfl
  obtain ⟨v, e, rfl, hok, hd, hpl, hR, q⟩ := h
  refine ⟨_, (pss_cons (ps_set (i := 1) sc_steps_of.nd rfl (Or.inl rfl) (pe_lst pa_nil))
    (pss_cons (ps_set (i := 2) sc_steps_of.nd rfl (Or.inl rfl) (pe_lst pa_nil))
    (pss_cons (ps_asg (pe_cl G_ends_of (hr.mono (by omega)) rfl (pa_cons (pv 0) (pa_cons (pv 1) (pa_cons (pv 2) pa_nil)))) (pg_tup rfl (pgs_cons (pg_name (i := 3) sc_steps_of.nd rfl (Or.inl rfl)) (pgs_cons (pg_name (i := 4) sc_steps_of.nd rfl (Or.inl rfl)) (pgs_cons (pg_name (i := 5) sc_steps_of.nd rfl (Or.inl rfl)) pgs_nil)))))
    (pss_cons (ps_setLc (i := 6) (own := [("row", 7)]) (g := gName 7) (tt := tYes) rfl sc_steps_of.nd rfl rfl (sw_true rfl rfl rfl (by decide +kernel)) (pi_list (pv 2)) (blkOk_by (N := N_steps_of) (sc := defScope s_steps_of) (by decide +kernel)) (fun _ _ _ _ _ => pg_name (i := 7) sc_steps_of.nd rfl (Or.inl rfl)) (fun _ _ _ _ _ => pts_nil) (fun _ _ _ _ _ => (pe_callTy (r := rTupOf K) call_tuple_ofK rfl B.b_tuple boot_tuple (pa_cons (pe_callB (call_sortedDI rfl) rfl B.b_sorted boot_sorted (pa_cons (pv 7) pa_nil)) pa_nil))))
    (pss_one (ps_ret (pe_mk MSteps (hr.mono (by omega)) rfl (pa_cons (pe_join pe_str (pv 1)) (pa_cons (pv 3) (pa_cons (pe_callTy call_tuple_of rfl B.b_tuple boot_tuple (pa_cons (pv 4) pa_nil)) (pa_cons (pe_callTy call_tuple_of rfl B.b_tuple boot_tuple (pa_cons (pv 5) pa_nil)) (pa_cons (pv 6) pa_nil)))))))))))), ?_⟩
  refine ⟨Nat.zero_le _, fun la hla => ⟨Nat.zero_le _, fun ra hra => ?_⟩⟩
  have s0 := (same_upd (o := .lst []) hla).trans (same_upd (o := .lst []) hra)
  have hne : la ≠ ra := fun c => by rw [← c, upd_same] at hra; cases hra
  have hLe : LetAt (upd (upd H la (.lst [])) ra (.lst [])) la [] := (same_upd hra) _ _ upd_same
  have hRw : RowsAt H (upd (upd H la (.lst [])) ra (.lst [])) ra 0 (fun _ _ => False) := ⟨⟨[], upd_same, rfl, List.nodup_nil, fun i d h => by simp at h⟩, fun i j h => h.elim, fun i j h => h.elim, fun ds hds d hd => by
    rw [upd_same] at hds
    have e1 : ([] : List Addr).map V.ref = ds.map V.ref := HO.lst.inj (Option.some.inj hds)
    have e2 : [] = ds := map_ref_inj e1
    rw [← e2] at hd
    cases hd⟩
  refine ⟨_, rfl, _, rfl, _, rfl, H, v, la, ra, e, [], _, rfl, hok, hd, hR.pers (Pers.same s0), ⟨hne, hLe, hRw, s0, hla, (same_upd hla).free hra, by show 0 + e.places ≤ 40; omega⟩, fun t f0 l0 H2 ht hE => ?_⟩
  refine ⟨t, _, rfl, SqT.of ht, rfl, _, _, rfl, _, _, rfl, _, _, rfl, rfl, ?_⟩
  obtain ⟨ds, d1, d2, d3, d4⟩ := hE.rw.ex
  have W := gl_within e 0
  -- following
  refine ⟨_, rfl, ra, rfl, ⟨_, SqL.of d1⟩, fun L hL => ?_⟩
  refine lc_list (K := K) (a := ra) (xs := ds.map V.ref) (fun i H3 => Same H2 H3 ∧ ∃ ts : List V, ts.length = i ∧ H3 L = some (.lst ts) ∧ ∀ j t, ts[j]? = some t → ∃ q, t = .ref q ∧ q ≠ L ∧ H3 q = some (.tup (natsV (folAt e j)))) ⟨same_upd hL, [], rfl, upd_same, fun j t h => by simp at h⟩ (fun i H3 _ h => SqL.of (h.1 _ _ d1)) (fun i x H3 hx h => ?_) (fun H3 h => ?_)
  · obtain ⟨h1, ts, h2, h3, h4⟩ := h
    rw [List.getElem?_map] at hx
    obtain ⟨d, hdd, rfl⟩ := Option.map_eq_some_iff.mp hx
    have hi := (List.getElem?_eq_some_iff.mp hdd).1
    obtain ⟨ms, m1, m2, m3⟩ := d4 i d hdd
    have hml : ms.length ≤ 40 := nodup_len 40 ms m2 fun x hx => by
      obtain ⟨j, rfl, hf⟩ := (m3 x).mp hx
      have := hE.rw.bd i j hf
      omega
    refine ⟨rfl, tyes ⟨_, rfl, d, keysD ms, ms, rfl, .inl (h1 _ _ m1), ?_, by omega, fun ys p hp1 hp2 hp3 => ⟨p, _, rfl, .inl ⟨SqL.of upd_same, fun q hq => ⟨ts, ?_, ?_, ?_, ts ++ [.ref q], by rw [List.length_append, h2]; rfl, upd_same, fun j t ht => ?_⟩⟩⟩⟩⟩
    · unfold keysD
      rw [List.map_map]
      rfl
    · exact (same_upd hq) _ _ ((same_upd hp3) _ _ h3)
    · have hdl : i < ds.length := hi
      have : ds.length = 0 + e.places := d2
      exact Nat.lt_of_le_of_lt (m := 40) (by omega) (by decide)
    · exact fun b o hb => by rw [upd_ne (ne_of_none hb hL)]; exact (same_upd hq) _ _ ((same_upd hp3) _ _ (h1 _ _ hb))
    · have hqL : q ≠ L := (ne_of_none ((same_upd hp3) _ _ h3) hq).symm
      rcases Nat.lt_or_ge j ts.length with hj | hj
      · rw [List.getElem?_append_left hj] at ht
        obtain ⟨q', a1, a2, a3⟩ := h4 j t ht
        exact ⟨q', a1, a2, by rw [upd_ne a2]; exact (same_upd hq) _ _ ((same_upd hp3) _ _ a3)⟩
      · rw [List.getElem?_append_right hj] at ht
        have hj2 : j - ts.length = 0 := by
          have := (List.getElem?_eq_some_iff.mp ht).1
          simp at this
          omega
        rw [hj2] at ht
        cases ht
        have hji : j = i := by omega
        subst hji
        refine ⟨q, rfl, hqL, ?_⟩
        rw [upd_ne hqL, upd_same]
        have e1 : ys = (folAt e j).map fun (k : Nat) => (k : Int) := by
          refine eq_of_rise _ _ (rise_of hp1 hp2 m2) (fol_rise e j) fun x => ?_
          rw [hp1.mem_iff, m3]
          unfold folAt
          constructor
          · rintro ⟨k, rfl, hf | hf⟩
            · exact hf.elim
            · exact List.mem_map.mpr ⟨k, List.mem_filter.mpr ⟨List.mem_range.mpr (by have := (W.fol j k hf).2; omega), decide_eq_true hf⟩, rfl⟩
          · intro hx
            obtain ⟨k, hk, rfl⟩ := List.mem_map.mp hx
            exact ⟨k, rfl, .inr (of_decide_eq_true (List.mem_filter.mp hk).2)⟩
        rw [e1, natsV_int]
  · obtain ⟨h1, ts, h2, h3, h4⟩ := h
    have hle := h1 _ _ hE.le
    have hcs : ([] ++ e.letters : List Nat).length = e.places := by rw [List.nil_append, letters_len]
    -- Steps(..)
    refine ⟨⟨_, rfl⟩, _, rfl, sNo, la, ([] ++ e.letters).map (fun c => (⟨#[c]⟩ : Str)), rfl, rfl, .inl (SqL.of (by rw [List.map_map]; exact hle)), ?_, ?_⟩
    · have : (([] ++ e.letters).map (fun c => (⟨#[c]⟩ : Str))).map Str.length = List.replicate e.places 1 := by
        rw [List.map_map, ← hcs, ← List.map_const']
        rfl
      show ((([] ++ e.letters).map (fun c => (⟨#[c]⟩ : Str))).map Str.length).sum + _ ≤ _
      rw [this, List.sum_replicate_nat, lE]
      omega
    have hz : (Txt.join sNo (([] ++ e.letters).map (fun c => (⟨#[c]⟩ : Str)))).cps.toList = e.letters := by
      rw [join_flat2, List.map_map, List.nil_append]
      generalize e.letters = cs
      induction cs with
      | nil => rfl
      | cons c cs ih =>
        rw [List.map_cons, List.flatten_cons, ih]
        rfl
    have hf3 := h1 _ _ hE.fst
    have hl3 := h1 _ _ hE.lst
    refine ⟨_, rfl, _, rfl, f0, _, rfl, .inl ⟨SqL.of hf3, fun ft hft => ⟨_, rfl, l0, _, rfl, .inl ⟨SqL.of ((same_upd hft) _ _ hl3), fun lt hlt => ⟨_, rfl, fun x dx hx hdx hdn => ?_⟩⟩⟩⟩⟩
    refine ⟨x, dx, _, _, _, _, _, rfl, upd_same, fun H' hH' kp => ⟨rfl, ?_⟩⟩
    have sft := same_upd (o := .tup (natsV (gl e 0).fst)) hft
    have slt := same_upd (o := .tup (natsV (gl e 0).lst)) hlt
    have keep : ∀ b o, (upd (upd H3 ft (.tup (natsV (gl e 0).fst))) lt (.tup (natsV (gl e 0).lst))) b = some o → H' b = some o := fun b o hb => kp b o (by rw [upd_ne (ne_of_none hb hx), upd_ne (ne_of_none hb hdx)]; exact hb) (ne_of_none hb hx)
    have S3 : Same H3 H' := fun b o hb => keep b o (slt _ _ (sft _ _ hb))
    refine q x H' ((hE.k0.trans h1).trans S3) ⟨dx, ft, lt, L, _, ts, hH', hz, keep _ _ (slt _ _ upd_same), keep _ _ upd_same, S3 _ _ h3, ?_, fun i t ht => ?_⟩
    · rw [h2, List.length_map, d2]
      show 0 + e.places = e.places
      omega
    · obtain ⟨q', a1, a2, a3⟩ := h4 i t ht
      exact ⟨q', a1, S3 _ _ a3⟩
end
end My
namespace My
open PySem PySem.Spec PyProof.Rows L2
theorem boot_set : bootBuiltins "set" = some (.type "set") := by decide +kernel
theorem boot_sorted2 : bootBuiltins "sorted" = some (.builtin "sorted") := by decide +kernel
def spBehind (C : Addr) : Sp := fun vs H Q _ => ∃ (p r : Addr) (e : E) (xs : List Nat), vs = [.ref p, .ref r] ∧ StepsAt C H p e ∧ e.places ≤ 40 ∧ H r = some (.tup (natsV xs)) ∧ (∀ x ∈ xs, x < e.places) ∧ xs.length ≤ 1000 ∧
  ∀ (q : Addr) (ys : List Nat) H', Same H H' → H q = none → H' q = some (.lst (natsV ys)) → ys.Pairwise (· < ·) → (∀ y, y ∈ ys ↔ ∃ x ∈ xs, (x, y) ∈ (gl e 0).fol) → Q (.ref q) H'
/-- a set of places, told by a list of its members -/
def SetM (w : World) (H : Hp) (S : Addr) (ms : List Int) : Prop := ∃ (Sf : Int → Bool) (n : Nat), H S = some (SetO w S Sf n) ∧ (∀ k, Sf k = decide (k ∈ ms)) ∧ n = ms.length ∧ ms.Nodup
theorem mem_fol (e : E) (x y : Nat) : y ∈ folAt e x ↔ (x, y) ∈ (gl e 0).fol := by
  unfold folAt
  rw [List.mem_filter, List.mem_range, decide_eq_true_eq]
  exact ⟨fun h => h.2, fun h => ⟨by have := ((gl_within e 0).fol x y h).2; omega, h⟩⟩
theorem natsV_getB {xs : List Nat} {m : Nat} {y : V} (h : (natsV xs)[m]? = some y) : ∃ i, xs[m]? = some i ∧ y = .int (i : Int) := by
  unfold natsV at h
  rw [List.getElem?_map] at h
  obtain ⟨i, h1, rfl⟩ := Option.map_eq_some_iff.mp h
  exact ⟨i, h1, rfl⟩
section
variable {P : Program} {w : World} {K : PySem.W.Frag} {mg : Str → Option Value} {base : Heap} {a_BOUNDS a_LONG_BOUNDS : Addr} {tL tM : Tok}
end
end My
namespace My
open PySem PySem.Spec PyProof.Rows L2
theorem for_strB {z : Str} {g : TG} {tb : TS} {D : Ends} {σ : L2.St} {H : Hp} (Pv : Nat → L2.St → Hp → Prop) (h0 : Pv 0 σ H)
    (hs : ∀ i c σ H, z.cps[i]? = some c → Pv i σ H → g (.str ⟨#[c]⟩) σ H fun σ2 H2 => tb { D with nx := Pv (i + 1), ct := Pv (i + 1), bk := D.nx } σ2 H2) (hd : ∀ σ H, Pv z.cps.size σ H → D.nx σ H) :
    ∃ W : Nat → Nat → L2.St → Hp → Prop, (∃ m, W 0 m σ H) ∧ ∀ i m σ H, W i m σ H →
      ((Its z).stop i H ∧ D.nx σ H) ∨ ((Its z).go i H ∧ ∃ N : L2.St → Hp → Prop, (∀ σ' H', N σ' H' → ∃ m', m' < m ∧ W (i + 1) m' σ' H') ∧ ∀ x H', (Its z).yld i H x H' → g x σ H' fun σ2 H2 => tb { D with nx := N, ct := N, bk := D.nx } σ2 H2) := by
  refine ⟨fun i m σ H => m = z.cps.size - i ∧ i ≤ z.cps.size ∧ Pv i σ H, ⟨z.cps.size, by simp, Nat.zero_le _, h0⟩, ?_⟩
  rintro i m σ H ⟨rfl, hi, p⟩
  by_cases hlt : i < z.cps.size
  · refine .inr ⟨hlt, Pv (i + 1), fun σ' H' p' => ⟨z.cps.size - (i + 1), by omega, rfl, hlt, p'⟩, fun x H' y => ?_⟩
    obtain ⟨rfl, c, hc, rfl⟩ := y
    exact hs i c σ _ hc p
  · have e : i = z.cps.size := by omega
    subst e
    exact .inl ⟨Nat.le_refl _, hd σ H p⟩
theorem pe_fldB {X : Cx} {K : PySem.W.Frag} {o : Expr} {f : Str} {pos : Pos} {ta : TE} (hK : X.K = K) (ha : PE X o ta) (hb : attributeBase o f X.env (eval o X.env) = eval o X.env) : PE X (.Attribute o f pos) (tFld K ta f) := by
  subst hK
  exact pe_fld ha hb
/-- over a list or a tuple -/
def iSeqB (K : PySem.W.Frag) (tl : TE) : L2.TI := fun σ H R => iList K tl σ H R ∨ iTup K tl σ H R
theorem pi_seqB {X : Cx} {tg l : Expr} {tl : TE} (hl : PE X l tl) : PI X tg l (iSeqB X.K tl) := by
  refine ⟨fun pins s σ H R I h => ?_⟩
  rcases h with h | h
  · exact (pi_list hl).run pins s σ H R I h
  · exact (pi_tup hl).run pins s σ H R I h
/-! ### the candidates of a word -/
def behindL (e : E) (row : List Nat) : List Nat := (List.range e.places).filter fun y => row.any fun x => decide ((x, y) ∈ (gl e 0).fol)
def rowL (e : E) (near : List Nat) (c : Nat) : List Nat := near.filter fun i => decide (e.letters[i]? = some c)
def cstep (e : E) (s : List Nat × List (List Nat)) (c : Nat) : List Nat × List (List Nat) := (behindL e (rowL e s.1 c), s.2 ++ [rowL e s.1 c])
def cRun (e : E) (ws : List Nat) : List Nat × List (List Nat) := ws.foldl (cstep e) ((gl e 0).fst, [])
theorem cRun_snoc (e : E) (ws : List Nat) (c : Nat) : cRun e (ws ++ [c]) = cstep e (cRun e ws) c := by
  unfold cRun
  rw [List.foldl_append]
  rfl
def spCands (C : Addr) : Sp := fun vs H Q _ => ∃ (p : Addr) (z : Str) (e : E), vs = [.ref p, .str z] ∧ StepsAt C H p e ∧ e.places ≤ 40 ∧ z.length ≤ 1000 ∧
  ∀ (q : Addr) (ts : List V) H', Same H H' → H q = none → H' q = some (.lst ts) → Two (fun t row => ∃ a, t = V.ref a ∧ H' a = some (.tup (natsV row))) ts (cRun e z.cps.toList).2 → Q (.ref q) H'
theorem eq_of_riseN {a b : List Nat} (ha : a.Pairwise (· < ·)) (hb : b.Pairwise (· < ·)) (h : ∀ x, x ∈ a ↔ x ∈ b) : a = b := by
  have up : ∀ l : List Nat, l.Pairwise (· < ·) → (l.map fun (j : Nat) => (j : Int)).Pairwise (· < ·) := fun l hl => by
    rw [List.pairwise_map]
    exact hl.imp fun h => by omega
  have e := eq_of_rise _ _ (up a ha) (up b hb) fun x => by
    constructor
    · intro hx
      obtain ⟨y, hy, rfl⟩ := List.mem_map.mp hx
      exact List.mem_map.mpr ⟨y, (h y).mp hy, rfl⟩
    · intro hx
      obtain ⟨y, hy, rfl⟩ := List.mem_map.mp hx
      exact List.mem_map.mpr ⟨y, (h y).mpr hy, rfl⟩
  have e2 := congrArg (List.map Int.toNat) e
  rw [List.map_map, List.map_map] at e2
  have e3 : (Int.toNat ∘ fun (j : Nat) => (j : Int)) = id := funext fun j => rfl
  rw [e3, List.map_id, List.map_id] at e2
  exact e2
theorem behindL_mem (e : E) (row : List Nat) (y : Nat) : y ∈ behindL e row ↔ ∃ x ∈ row, (x, y) ∈ (gl e 0).fol := by
  unfold behindL
  rw [List.mem_filter, List.mem_range, List.any_eq_true]
  constructor
  · rintro ⟨_, x, hx, hf⟩
    exact ⟨x, hx, of_decide_eq_true hf⟩
  · rintro ⟨x, hx, hf⟩
    exact ⟨by have := ((gl_within e 0).fol x y hf).2; omega, x, hx, decide_eq_true hf⟩
section
variable {P : Program} {w : World} {K : PySem.W.Frag} {mg : Str → Option Value} {base : Heap} {a_BOUNDS a_LONG_BOUNDS : Addr} {tL tM : Tok}
end
end My
namespace My
open PySem PySem.Spec PyProof.Rows L2
/-! ### places by their letters -/
theorem two_put {R R' : (L2.Key × V) → Nat → Prop} (hk : ∀ kv c, R kv c → kv.1 = Sum.inr ⟨#[c]⟩) (c : Nat) (z : V) (hc : R' (Sum.inr ⟨#[c]⟩, z) c) (ho : ∀ kv c', c' ≠ c → R kv c' → R' kv c') {kvs : List (L2.Key × V)} {cs : List Nat} (h : Two R kvs cs) : Two R' (putK kvs (Sum.inr ⟨#[c]⟩) z) (if c ∈ cs then cs else cs ++ [c]) := by
  have key : ∀ {kv : L2.Key × V} {c' : Nat}, R kv c' → (kv.1 = Sum.inr ⟨#[c]⟩ ↔ c' = c) := fun {kv c'} r => by
    rw [hk _ _ r]
    constructor
    · intro e
      have e1 : (⟨#[c']⟩ : Str) = ⟨#[c]⟩ := Sum.inr.inj e
      have e2 := congrArg (fun s : Str => s.cps.toList) e1
      exact (List.cons.inj e2).1
    · rintro rfl
      rfl
  have any : (kvs.any fun kv => decide (kv.1 = (Sum.inr ⟨#[c]⟩ : L2.Key))) = decide (c ∈ cs) := by
    induction h with
    | nil => rfl
    | @cons a b as bs r _ ih =>
      rw [List.any_cons, ih, ← Bool.decide_or]
      refine decide_eq_decide.mpr ?_
      rw [key r, List.mem_cons]
      exact ⟨fun h => h.elim (fun h => .inl h.symm) .inr, fun h => h.elim (fun h => .inl h.symm) .inr⟩
  unfold putK
  rw [any]
  by_cases hm : c ∈ cs
  · rw [if_pos (decide_eq_true hm), if_pos hm]
    clear any hm
    induction h with
    | nil => exact .nil
    | @cons a b as bs r _ ih =>
      rw [List.map_cons]
      refine .cons ?_ ih
      by_cases e : b = c
      · rw [if_pos ((key r).mpr e), (key r).mpr e, e]
        exact hc
      · rw [if_neg fun h => e ((key r).mp h)]
        exact ho _ _ e r
  · rw [if_neg (by rw [decide_eq_false hm]; exact Bool.false_ne_true), if_neg hm]
    have : Two R' kvs cs := by
      refine h.monoM fun a b _ hb r => ho _ _ (fun e => hm (e ▸ hb)) r
    exact this.app (.cons hc .nil)
def GrpR (H : Hp) (e : E) (near : List Nat) (kv : L2.Key × V) (c : Nat) : Prop := ∃ q, kv = (Sum.inr ⟨#[c]⟩, V.ref q) ∧ H q = some (.tup (natsV (rowL e near c)))
/-- a dict from letters to the near places with it -/
structure GrpK (H : Hp) (e : E) (near : List Nat) (kvs : List (L2.Key × V)) (cs : List Nat) : Prop where
  nd : cs.Nodup
  mem : ∀ c, c ∈ cs ↔ rowL e near c ≠ []
  two : Two (GrpR H e near) kvs cs
  ln : cs.length ≤ near.length
theorem GrpK.same {H H' : Hp} {e : E} {near : List Nat} {kvs : List (L2.Key × V)} {cs : List Nat} (s : Same H H') (h : GrpK H e near kvs cs) : GrpK H' e near kvs cs :=
  ⟨h.nd, h.mem, h.two.mono fun _ _ ⟨q, e1, e2⟩ => ⟨q, e1, s _ _ e2⟩, h.ln⟩
theorem GrpK.get {H : Hp} {e : E} {near : List Nat} {kvs : List (L2.Key × V)} {cs : List Nat} (h : GrpK H e near kvs cs) (c : Nat) : (rowL e near c = [] ∧ valV kvs (Sum.inr ⟨#[c]⟩) = none) ∨ ∃ q, valV kvs (Sum.inr ⟨#[c]⟩) = some (.ref q) ∧ H q = some (.tup (natsV (rowL e near c))) ∧ rowL e near c ≠ [] := by
  have key : ∀ {kvs : List (L2.Key × V)} {cs : List Nat}, Two (GrpR H e near) kvs cs → (c ∉ cs ∧ valV kvs (Sum.inr ⟨#[c]⟩) = none) ∨ (c ∈ cs ∧ ∃ q, valV kvs (Sum.inr ⟨#[c]⟩) = some (.ref q) ∧ H q = some (.tup (natsV (rowL e near c)))) := fun t => by
    induction t with
    | nil => exact .inl ⟨(by intro h; cases h), rfl⟩
    | @cons a b as bs r _ ih =>
      obtain ⟨q, rfl, hq⟩ := r
      by_cases eb : b = c
      · subst eb
        exact .inr ⟨List.mem_cons_self, q, valV_pos (p := ((Sum.inr ⟨#[b]⟩ : L2.Key), V.ref q)) rfl, hq⟩
      · have ne : ¬ (((Sum.inr ⟨#[b]⟩ : L2.Key), V.ref q)).1 = Sum.inr ⟨#[c]⟩ := fun h => eb (by
          have e1 : (⟨#[b]⟩ : Str) = ⟨#[c]⟩ := Sum.inr.inj h
          have e2 := congrArg (fun s : Str => s.cps.toList) e1
          exact (List.cons.inj e2).1)
        rw [valV_neg ne]
        rcases ih with ⟨i1, i2⟩ | ⟨i1, i2⟩
        · exact .inl ⟨fun h => (List.mem_cons.mp h).elim (fun h => eb h.symm) i1, i2⟩
        · exact .inr ⟨List.mem_cons_of_mem _ i1, i2⟩
  rcases key h.two with ⟨i1, i2⟩ | ⟨i1, q, i2, i3⟩
  · refine .inl ⟨?_, i2⟩
    by_cases c0 : rowL e near c = []
    · exact c0
    · exact absurd ((h.mem c).mpr c0) i1
  · exact .inr ⟨q, i2, i3, (h.mem c).mp i1⟩
theorem rowL_snoc (e : E) (xs : List Nat) (x c : Nat) : rowL e (xs ++ [x]) c = rowL e xs c ++ (if e.letters[x]? = some c then [x] else []) := by
  unfold rowL
  rw [List.filter_append, List.filter_cons]
  by_cases h : e.letters[x]? = some c
  · rw [if_pos (decide_eq_true h), if_pos h]
    rfl
  · rw [if_neg (by rw [decide_eq_false h]; exact Bool.false_ne_true), if_neg h]
    rfl
theorem GrpK.put {H H3 : Hp} {e : E} {near : List Nat} {kvs : List (L2.Key × V)} {cs : List Nat} {d r : Addr} {i c : Nat} (h : GrpK H e near kvs cs) (S : Same H H3) (hd : H3 d = some (.dK kvs)) (hi : e.letters[i]? = some c) (hr : H3 r = some (.tup (natsV (rowL e (near ++ [i]) c)))) : GrpK (upd H3 d (.dK (putK kvs (Sum.inr ⟨#[c]⟩) (.ref r)))) e (near ++ [i]) (putK kvs (Sum.inr ⟨#[c]⟩) (.ref r)) (if c ∈ cs then cs else cs ++ [c]) where
  nd := by
    split
    · exact h.nd
    · rename_i hc
      rw [List.nodup_append]
      exact ⟨h.nd, by simp, fun a ha b hb => by rw [List.mem_singleton.mp hb]; rintro rfl; exact hc ha⟩
  mem := fun c' => by
    rw [rowL_snoc]
    have hm := h.mem c'
    by_cases e1 : c' = c
    · subst e1
      rw [if_pos hi]
      refine ⟨fun _ => by simp, fun _ => ?_⟩
      split
      · assumption
      · exact List.mem_append_right _ List.mem_cons_self
    · rw [if_neg (show ¬ e.letters[i]? = some c' from fun h => e1 (Option.some.inj (h.symm.trans hi))), List.append_nil, ← hm]
      split
      · rfl
      · rw [List.mem_append, List.mem_singleton]
        exact ⟨fun h => h.elim id fun h => absurd h e1, .inl⟩
  two := by
    have dt : ∀ {q : Addr} {xs : List V}, H3 q = some (.tup xs) → q ≠ d := fun hq => ne_of hq hd (by intro z; cases z)
    refine two_put (R := GrpR H e near) (fun kv c' ⟨q, e1, _⟩ => by rw [e1]) c (.ref r) ⟨r, rfl, by rw [upd_ne (dt hr)]; exact hr⟩ (fun kv c' hc ⟨q, e1, e2⟩ => ⟨q, e1, ?_⟩) h.two
    rw [upd_ne (dt (S _ _ e2)), rowL_snoc, if_neg (fun h => hc (Option.some.inj (h.symm.trans hi))), List.append_nil]
    exact S _ _ e2
  ln := by
    have := h.ln
    rw [List.length_append]
    split
    · omega
    · rw [List.length_append]
      show cs.length + 1 ≤ near.length + 1
      omega
def spByL (C : Addr) : Sp := fun vs H Q _ => ∃ (p nr : Addr) (e : E) (near : List Nat), vs = [.ref p, .ref nr] ∧ StepsAt C H p e ∧ e.places ≤ 40 ∧ (H nr = some (.tup (natsV near)) ∨ H nr = some (.lst (natsV near))) ∧ (∀ x ∈ near, x < e.places) ∧ near.length ≤ 40 ∧
  ∀ (d : Addr) (kvs : List (L2.Key × V)) (cs : List Nat) H', Same H H' → H d = none → H' d = some (.dK kvs) → GrpK H' e near kvs cs → Q (.ref d) H'
section
variable {P : Program} {w : World} {K : PySem.W.Frag} {mg : Str → Option Value} {base : Heap} {a_BOUNDS a_LONG_BOUNDS : Addr} {tL tM : Tok}
abbrev N_by_letter : List Str := ["steps", "near", "rows", "place", "letter"]
theorem sc_by_letter : FnScope ["steps", "near", "rows", "place", "letter"] ["steps", "near"] (defScope s_by_letter) := ⟨rfl, rfl, rfl, by decide +kernel, rfl, by decide +kernel, by decide +kernel⟩
set_option maxHeartbeats 1000000 in
theorem ok_byletter {C f : Addr} {fd : FuncData} (T : StTxt K C) (B : Bt K mg a_BOUNDS a_LONG_BOUNDS tL tM) (Dd : Df K mg "by_letter" s_by_letter ["steps", "near"] f fd) : FnOk P w K mg base CX0 1 f fd ["steps", "near"] (spByL C) := by
  refine Dd.F.ok sc_by_letter (fun vs H Q Ex h => ?_) (fun cdv A outer s H vs Q Ex hr h => ?_)
  · obtain ⟨p, nr, e, near, rfl, _⟩ := h
    rfl
  obtain ⟨p, nr, e, near, rfl, hS, h40, hnr, hlt, hl40, q⟩ := h
  refine ⟨_, (pss_cons (ps_set (i := 2) sc_by_letter.nd rfl (Or.inl rfl) pe_dnewK)
    (pss_cons (ps_for PassesOwn.never rfl (pi_seqB (pv 1)) (pg_name (i := 3) sc_by_letter.nd rfl (Or.inl rfl)) (pss_cons (ps_set (i := 4) sc_by_letter.nd rfl (Or.inl rfl) (pe_ix ix_str (pe_fld (pv 0) rfl) (pv 3) (fun _ _ => rfl)))
    (pss_one (ps_dput (hu_of hr) (pv 2) (pv 4) (pe_op op_catA (pe_dget2 (hu_of hr) (pv 2) (pv 4) (pe_tup pa_nil) ⟨rfl, rfl, rfl, rfl⟩) (pe_tup (pa_cons (pv 3) pa_nil))) rfl))))
    (pss_one (ps_ret (pv 2))))), ?_⟩
  intro d hd
  have s0 := same_upd (o := .dK []) hd
  have nrd : nr ≠ d := by rcases hnr with h | h <;> exact ne_of_none h hd
  have inv0 : ∃ kvs cs, (upd H d (.dK [])) d = some (.dK kvs) ∧ GrpK (upd H d (.dK [])) e (near.take 0) kvs cs := ⟨[], [], upd_same, .nil, fun c => ⟨(fun h => by cases h), fun h => absurd rfl h⟩, .nil, Nat.le_refl _⟩
  rcases hnr with hnr | hnr
  · refine .inr ⟨_, rfl, nr, rfl, ⟨_, SqT.of (s0 _ _ hnr)⟩, for_tup (K := K) (a := nr) (xs := natsV near) (fun m σ' H' => ∃ (o3 o4 : Option V), σ' = [some (.ref p), some (.ref nr), some (.ref d), o3, o4] ∧ Same H H' ∧ ∃ kvs cs, H' d = some (.dK kvs) ∧ GrpK H' e (near.take m) kvs cs) ?_ ?_ ?_ ?_⟩
    · exact ⟨none, none, rfl, s0, inv0⟩
    · rintro m σ' H' _ ⟨o3, o4, rfl, s1, _⟩
      exact SqT.of (s1 _ _ hnr)
    · rintro m v σ' H1 hv ⟨o3, o4, rfl, s1, kvs, cs, hdk, hG⟩
      obtain ⟨i, hi, rfl⟩ := natsV_getB hv
      have hip := hlt i (List.mem_of_getElem? hi)
      have hml := (List.getElem?_eq_some_iff.mp hi).1
      obtain ⟨dx, f1, l1, o1, z', ts1, h1, h2, h3, h4, h5, h6, h7⟩ := (hS.same s1).ex
      have hz' : z'.length = e.places := by rw [← len_toList2, h2, letters_len]
      have hil : i < e.letters.length := by rw [letters_len]; exact hip
      have hci : e.letters[i]? = some e.letters[i] := List.getElem?_eq_getElem hil
      have hat : atI z'.cps.toList (i : Int) = some e.letters[i] := by
        rw [h2]
        exact atI_nat hci
      refine ⟨_, rfl, p, C, dx, _, _, rfl, h1, T.cl, T.a1, stF_letters .., _, rfl, z', (i : Int), e.letters[i], rfl, rfl, by rw [hz']; exact Nat.le_trans h40 (by decide), hat, ?_⟩
      have hkl : kvs.length < sizeLine := by
        rw [hG.two.len]
        have := hG.ln
        rw [List.length_take] at this
        exact Nat.lt_of_le_of_lt (m := 40) (by omega) (by decide)
      refine ⟨_, rfl, d, rfl, .inl ⟨kvs, .inl hdk⟩, _, rfl, by show 0 ≤ sizeLine; decide, fun t0 ht0 => ?_⟩
      have s2 := same_upd (o := .tup []) ht0
      have rl : (rowL e (near.take m) e.letters[i]).length ≤ 40 := by
        unfold rowL
        have := List.length_filter_le (fun k => decide (e.letters[k]? = some e.letters[i])) (near.take m)
        rw [List.length_take] at this
        omega
      have rn := rowL_snoc e (near.take m) i e.letters[i]
      rw [if_pos hci] at rn
      have fin : ∀ (r : Addr) (H3 : Hp), Same H1 H3 → H3 r = some (.tup (natsV (rowL e (near.take m) e.letters[i]) ++ [V.int (i : Int)])) → ∃ (kvs' : List (L2.Key × V)) (cs' : List Nat), kvs' = putK kvs (Sum.inr ⟨#[e.letters[i]]⟩) (.ref r) ∧ Same H (upd H3 d (.dK kvs')) ∧ GrpK (upd H3 d (.dK kvs')) e (near.take (m + 1)) kvs' cs' := fun r H3 S3 hr3 => by
        refine ⟨_, (if e.letters[i] ∈ cs then cs else cs ++ [e.letters[i]]), rfl, fun b o hb => by rw [upd_ne (ne_of_none hb hd)]; exact S3 _ _ (s1 _ _ hb), ?_⟩
        rw [take_snoc hi]
        refine hG.put S3 (S3 _ _ hdk) hci ?_
        rw [hr3, rn, ← natsV_app]
        rfl
      rcases hG.get e.letters[i] with ⟨g1, g2⟩ | ⟨qq, g1, g2, g3⟩
      · refine ⟨none, by rw [← g2]; exact DGet.k (k := Sum.inr ⟨#[e.letters[i]]⟩) (s2 _ _ hdk), _, rfl, by show 1 ≤ sizeLine; decide, fun t1 ht1 => ?_⟩
        have s3 := same_upd (o := .tup [V.int (i : Int)]) ht1
        refine catA_of (K := K) (a := t0) (b := t1) (xs := []) (ys := [V.int (i : Int)]) (s3 _ _ upd_same) upd_same (by show 0 + 1 ≤ sizeLine; decide) fun r H3 s4 hr3 => ?_
        have S3 := s2.trans (s3.trans s4)
        obtain ⟨kvs', cs', rfl, e2, e3⟩ := fin r H3 S3 (by rw [hr3, g1]; rfl)
        exact ⟨_, rfl, _, rfl, d, _, rfl, DPut.k (k := Sum.inr ⟨#[e.letters[i]]⟩) (S3 _ _ hdk) hkl, some (.int (i : Int)), _, rfl, e2, _, cs', upd_same, e3⟩
      · refine ⟨some (.ref qq), by rw [← g1]; exact DGet.k (k := Sum.inr ⟨#[e.letters[i]]⟩) (s2 _ _ hdk), _, rfl, by show 1 ≤ sizeLine; decide, fun t1 ht1 => ?_⟩
        have s3 := same_upd (o := .tup [V.int (i : Int)]) ht1
        refine catA_of (K := K) (a := qq) (b := t1) (s3 _ _ (s2 _ _ g2)) upd_same (by rw [natsV_len]; exact Nat.le_trans (m := 41) (by show _ + 1 ≤ 41; omega) (by decide)) fun r H3 s4 hr3 => ?_
        have S3 := s2.trans (s3.trans s4)
        obtain ⟨kvs', cs', rfl, e2, e3⟩ := fin r H3 S3 hr3
        exact ⟨_, rfl, _, rfl, d, _, rfl, DPut.k (k := Sum.inr ⟨#[e.letters[i]]⟩) (S3 _ _ hdk) hkl, some (.int (i : Int)), _, rfl, e2, _, cs', upd_same, e3⟩
    · rintro σ' H1 ⟨o3, o4, rfl, s1, kvs, cs, hdk, hG⟩
      rw [natsV_len, List.take_length] at hG
      exact ⟨_, rfl, q d kvs cs H1 s1 hd hdk hG⟩
  · refine .inl ⟨_, rfl, nr, rfl, ⟨_, SqL.of (s0 _ _ hnr)⟩, for_list (K := K) (a := nr) (xs := natsV near) (fun m σ' H' => ∃ (o3 o4 : Option V), σ' = [some (.ref p), some (.ref nr), some (.ref d), o3, o4] ∧ Same H H' ∧ ∃ kvs cs, H' d = some (.dK kvs) ∧ GrpK H' e (near.take m) kvs cs) ?_ ?_ ?_ ?_⟩
    · exact ⟨none, none, rfl, s0, inv0⟩
    · rintro m σ' H' _ ⟨o3, o4, rfl, s1, _⟩
      exact SqL.of (s1 _ _ hnr)
    · rintro m v σ' H1 hv ⟨o3, o4, rfl, s1, kvs, cs, hdk, hG⟩
      obtain ⟨i, hi, rfl⟩ := natsV_getB hv
      have hip := hlt i (List.mem_of_getElem? hi)
      have hml := (List.getElem?_eq_some_iff.mp hi).1
      obtain ⟨dx, f1, l1, o1, z', ts1, h1, h2, h3, h4, h5, h6, h7⟩ := (hS.same s1).ex
      have hz' : z'.length = e.places := by rw [← len_toList2, h2, letters_len]
      have hil : i < e.letters.length := by rw [letters_len]; exact hip
      have hci : e.letters[i]? = some e.letters[i] := List.getElem?_eq_getElem hil
      have hat : atI z'.cps.toList (i : Int) = some e.letters[i] := by
        rw [h2]
        exact atI_nat hci
      refine ⟨_, rfl, p, C, dx, _, _, rfl, h1, T.cl, T.a1, stF_letters .., _, rfl, z', (i : Int), e.letters[i], rfl, rfl, by rw [hz']; exact Nat.le_trans h40 (by decide), hat, ?_⟩
      have hkl : kvs.length < sizeLine := by
        rw [hG.two.len]
        have := hG.ln
        rw [List.length_take] at this
        exact Nat.lt_of_le_of_lt (m := 40) (by omega) (by decide)
      refine ⟨_, rfl, d, rfl, .inl ⟨kvs, .inl hdk⟩, _, rfl, by show 0 ≤ sizeLine; decide, fun t0 ht0 => ?_⟩
      have s2 := same_upd (o := .tup []) ht0
      have rl : (rowL e (near.take m) e.letters[i]).length ≤ 40 := by
        unfold rowL
        have := List.length_filter_le (fun k => decide (e.letters[k]? = some e.letters[i])) (near.take m)
        rw [List.length_take] at this
        omega
      have rn := rowL_snoc e (near.take m) i e.letters[i]
      rw [if_pos hci] at rn
      have fin : ∀ (r : Addr) (H3 : Hp), Same H1 H3 → H3 r = some (.tup (natsV (rowL e (near.take m) e.letters[i]) ++ [V.int (i : Int)])) → ∃ (kvs' : List (L2.Key × V)) (cs' : List Nat), kvs' = putK kvs (Sum.inr ⟨#[e.letters[i]]⟩) (.ref r) ∧ Same H (upd H3 d (.dK kvs')) ∧ GrpK (upd H3 d (.dK kvs')) e (near.take (m + 1)) kvs' cs' := fun r H3 S3 hr3 => by
        refine ⟨_, (if e.letters[i] ∈ cs then cs else cs ++ [e.letters[i]]), rfl, fun b o hb => by rw [upd_ne (ne_of_none hb hd)]; exact S3 _ _ (s1 _ _ hb), ?_⟩
        rw [take_snoc hi]
        refine hG.put S3 (S3 _ _ hdk) hci ?_
        rw [hr3, rn, ← natsV_app]
        rfl
      rcases hG.get e.letters[i] with ⟨g1, g2⟩ | ⟨qq, g1, g2, g3⟩
      · refine ⟨none, by rw [← g2]; exact DGet.k (k := Sum.inr ⟨#[e.letters[i]]⟩) (s2 _ _ hdk), _, rfl, by show 1 ≤ sizeLine; decide, fun t1 ht1 => ?_⟩
        have s3 := same_upd (o := .tup [V.int (i : Int)]) ht1
        refine catA_of (K := K) (a := t0) (b := t1) (xs := []) (ys := [V.int (i : Int)]) (s3 _ _ upd_same) upd_same (by show 0 + 1 ≤ sizeLine; decide) fun r H3 s4 hr3 => ?_
        have S3 := s2.trans (s3.trans s4)
        obtain ⟨kvs', cs', rfl, e2, e3⟩ := fin r H3 S3 (by rw [hr3, g1]; rfl)
        exact ⟨_, rfl, _, rfl, d, _, rfl, DPut.k (k := Sum.inr ⟨#[e.letters[i]]⟩) (S3 _ _ hdk) hkl, some (.int (i : Int)), _, rfl, e2, _, cs', upd_same, e3⟩
      · refine ⟨some (.ref qq), by rw [← g1]; exact DGet.k (k := Sum.inr ⟨#[e.letters[i]]⟩) (s2 _ _ hdk), _, rfl, by show 1 ≤ sizeLine; decide, fun t1 ht1 => ?_⟩
        have s3 := same_upd (o := .tup [V.int (i : Int)]) ht1
        refine catA_of (K := K) (a := qq) (b := t1) (s3 _ _ (s2 _ _ g2)) upd_same (by rw [natsV_len]; exact Nat.le_trans (m := 41) (by show _ + 1 ≤ 41; omega) (by decide)) fun r H3 s4 hr3 => ?_
        have S3 := s2.trans (s3.trans s4)
        obtain ⟨kvs', cs', rfl, e2, e3⟩ := fin r H3 S3 hr3
        exact ⟨_, rfl, _, rfl, d, _, rfl, DPut.k (k := Sum.inr ⟨#[e.letters[i]]⟩) (S3 _ _ hdk) hkl, some (.int (i : Int)), _, rfl, e2, _, cs', upd_same, e3⟩
    · rintro σ' H1 ⟨o3, o4, rfl, s1, kvs, cs, hdk, hG⟩
      rw [natsV_len, List.take_length] at hG
      exact ⟨_, rfl, q d kvs cs H1 s1 hd hdk hG⟩
end
end My
namespace My
open PySem PySem.Spec PyProof.Rows L2
theorem Bt.g_BEGIN {K : PySem.W.Frag} {mg : Str → Option Value} {a_BOUNDS a_LONG_BOUNDS : Addr} {tL tM : Tok} (B : Bt K mg a_BOUNDS a_LONG_BOUNDS tL tM) : mg "BEGIN" = some (.int (-1) B.e_BEGIN.choose) := B.e_BEGIN.choose_spec
/-! ### places in conflict -/
/-- what can stand behind: the beginning (0), or place t - 1 -/
def nearT (e : E) (t : Nat) : List Nat := if t = 0 then (gl e 0).fst else folAt e (t - 1)
def prB (e : E) (near : List Nat) (i j : Nat) : Bool := decide (i ∈ near ∧ j ∈ near ∧ i < j ∧ e.letters[i]? = e.letters[j]?)
def PairT (H : Hp) (v : V) (x : Nat × Nat) : Prop := ∃ a, v = .ref a ∧ H a = some (.tup [.int (x.1 : Int), .int (x.2 : Int)])
theorem PairT.same {H H' : Hp} {v : V} {x : Nat × Nat} (s : Same H H') (h : PairT H v x) : PairT H' v x := by
  obtain ⟨a, e, h⟩ := h
  exact ⟨a, e, s _ _ h⟩
theorem nearT_lt (e : E) (t : Nat) : ∀ x ∈ nearT e t, x < e.places := fun x hx => by
  unfold nearT at hx
  split at hx
  · have := (gl_within e 0).fst x hx
    omega
  · have := ((gl_within e 0).fol _ x ((mem_fol e _ x).mp hx)).2
    omega
theorem nearT_rise (e : E) (t : Nat) : (nearT e t).Pairwise (· < ·) := by
  unfold nearT
  split
  · exact (gl_rise e 0).fst
  · exact List.pairwise_lt_range.filter _
theorem nearT_len (e : E) (t : Nat) : (nearT e t).length ≤ e.places := by
  unfold nearT
  split
  · exact (gl_len e 0).fst
  · unfold folAt
    exact Nat.le_trans (List.length_filter_le _ _) (by rw [List.length_range]; exact Nat.le_refl _)
def prK (row : List Nat) (k : Nat) : List (Nat × Nat) := ((List.range k).map fun m => (row.drop (m + 1)).map fun y => (row.getD m 0, y)).flatten
theorem prK_succ (row : List Nat) (k : Nat) : prK row (k + 1) = prK row k ++ (row.drop (k + 1)).map fun y => (row.getD k 0, y) := by
  unfold prK
  rw [List.range_succ, List.map_append, List.flatten_append]
  simp
theorem prK_len (row : List Nat) : ∀ k, (prK row k).length ≤ k * row.length
  | 0 => Nat.zero_le _
  | k + 1 => by
    rw [prK_succ, List.length_append, List.length_map, List.length_drop, Nat.succ_mul]
    have := prK_len row k
    omega
theorem prK_mem {row : List Nat} (hr : row.Pairwise (· < ·)) {i j : Nat} : (i, j) ∈ prK row row.length ↔ i ∈ row ∧ j ∈ row ∧ i < j := by
  unfold prK
  rw [List.mem_flatten]
  constructor
  · rintro ⟨l, hl, hm⟩
    obtain ⟨m, hm1, rfl⟩ := List.mem_map.mp hl
    obtain ⟨y, hy, e⟩ := List.mem_map.mp hm
    have hml := List.mem_range.mp hm1
    cases e
    rw [List.getD_eq_getElem?_getD, List.getElem?_eq_getElem hml]
    obtain ⟨n, hn, rfl⟩ := List.getElem_of_mem hy
    rw [List.getElem_drop]
    rw [List.length_drop] at hn
    exact ⟨List.getElem_mem _, List.getElem_mem _, List.pairwise_iff_getElem.mp hr m (m + 1 + n) hml (by omega) (by omega)⟩
  · rintro ⟨h1, h2, h3⟩
    obtain ⟨m, hm, rfl⟩ := List.getElem_of_mem h1
    obtain ⟨n, hn, rfl⟩ := List.getElem_of_mem h2
    have hmn : m < n := by
      rcases Nat.lt_trichotomy m n with h | h | h
      · exact h
      · subst h
        omega
      · have := List.pairwise_iff_getElem.mp hr n m hn hm h
        omega
    refine ⟨_, List.mem_map.mpr ⟨m, List.mem_range.mpr hm, rfl⟩, List.mem_map.mpr ⟨row[n], ?_, ?_⟩⟩
    · rw [List.mem_iff_getElem]
      refine ⟨n - (m + 1), by rw [List.length_drop]; omega, ?_⟩
      rw [List.getElem_drop]
      congr 1
      omega
    · rw [List.getD_eq_getElem?_getD, List.getElem?_eq_getElem hm]
      rfl
theorem cut_loN (g : List Nat) (k : Nat) : cutV (natsV g) (some (k : Int)) none = natsV (g.drop k) := by
  unfold cutV
  rw [HT.sIx_none, HT.sIx_nat, natsV_len]
  by_cases h : k ≤ g.length
  · rw [Nat.min_eq_left h, List.take_of_length_le (by rw [List.length_drop, natsV_len]; omega)]
    exact List.map_drop.symm
  · rw [Nat.min_eq_right (by omega), Nat.sub_self, List.take_zero, List.drop_eq_nil_of_le (by omega)]
    rfl
def TK (H H' : Hp) : Prop := ∀ b xs, H b = some (.tup xs) → H' b = some (.tup xs)
theorem TK.same {H H' : Hp} (s : Same H H') : TK H H' := fun b xs h => s _ _ h
theorem TK.trans {H H1 H2 : Hp} (x : TK H H1) (y : TK H1 H2) : TK H H2 := fun b xs h => y _ _ (x _ _ h)
theorem TK.upd {H : Hp} {d : Addr} {o u : HO} (h : H d = some u) (hu : ∀ xs, u ≠ .tup xs) : TK H (upd H d o) := fun b xs hb => by
  rw [upd_ne fun e => by rw [e, h] at hb; exact hu _ (Option.some.inj hb)]
  exact hb
theorem PairT.tk {H H' : Hp} {v : V} {x : Nat × Nat} (s : TK H H') (h : PairT H v x) : PairT H' v x := by
  obtain ⟨a, e, h⟩ := h
  exact ⟨a, e, s _ _ h⟩
def spNodes (C : Addr) : Sp := fun vs H Q _ => ∃ (p : Addr) (e : E), vs = [.ref p] ∧ StepsAt C H p e ∧ e.places ≤ 40 ∧ ∀ q H', Same H H' → H q = none → H' q = some (.lst ((List.range (e.places + 1)).map fun (t : Nat) => V.int ((t : Int) - 1))) → Q (.ref q) H'
def spNear (C : Addr) : Sp := fun vs H Q _ => ∃ (p : Addr) (e : E) (t : Nat), vs = [.ref p, .int ((t : Int) - 1)] ∧ StepsAt C H p e ∧ e.places ≤ 40 ∧ t ≤ e.places ∧ ∀ q, H q = some (.tup (natsV (nearT e t))) → Q (.ref q) H
def spPairs (C : Addr) : Sp := fun vs H Q _ => ∃ (p : Addr) (e : E) (t : Nat), vs = [.ref p, .int ((t : Int) - 1)] ∧ StepsAt C H p e ∧ e.places ≤ 40 ∧ t ≤ e.places ∧
  ∀ (q : Addr) (ts : List V) (ps : List (Nat × Nat)) H', Same H H' → H q = none → H' q = some (.lst ts) → Two (PairT H') ts ps → (∀ i j, (i, j) ∈ ps ↔ prB e (nearT e t) i j = true) → ps.length ≤ 64000 → Q (.ref q) H'
theorem rgV_nodes (n : Nat) : rgV (-1) (n : Int) = (List.range (n + 1)).map fun (t : Nat) => V.int ((t : Int) - 1) := by
  unfold rgV
  rw [show (((n : Int) - (-1)).toNat) = n + 1 by omega]
  refine List.map_congr_left fun i _ => ?_
  rw [show (-1 : Int) + (i : Nat) = ((i : Nat) : Int) - 1 by omega]
theorem rowL_mem {e : E} {near : List Nat} {c x : Nat} : x ∈ rowL e near c ↔ x ∈ near ∧ e.letters[x]? = some c := by
  unfold rowL
  rw [List.mem_filter, decide_eq_true_eq]
section
variable {P : Program} {w : World} {K : PySem.W.Frag} {mg : Str → Option Value} {base : Heap} {a_BOUNDS a_LONG_BOUNDS : Addr} {tL tM : Tok}
abbrev N__nodes : List Str := ["steps"]
theorem sc__nodes : FnScope ["steps"] ["steps"] (defScope s__nodes) := ⟨rfl, rfl, rfl, by decide +kernel, rfl, by decide +kernel, by decide +kernel⟩
theorem ok_nodes {C f : Addr} {fd : FuncData} (T : StTxt K C) (B : Bt K mg a_BOUNDS a_LONG_BOUNDS tL tM) (Dd : Df K mg "_nodes" s__nodes ["steps"] f fd) : FnOk P w K mg base CX0 1 f fd ["steps"] (spNodes C) := by
  refine Dd.F.ok sc__nodes (fun vs H Q Ex h => ?_) (fun cdv A outer s H vs Q Ex hr h => ?_)
  · obtain ⟨p, e, rfl, _⟩ := h
    rfl
  obtain ⟨p, e, rfl, hS, h40, q⟩ := h
  refine ⟨_, (pss_one (ps_ret (pe_listRg rfl rfl B.b_list (prg_2 rfl B.b_range (pe_glob (v := .int (-1)) rfl B.g_BEGIN ⟨_, rfl⟩) (pe_callB call_len rfl B.b_len boot_len (pa_cons (pe_fld (pv 0) rfl) pa_nil)))))), ?_⟩
  obtain ⟨dx, f1, l1, o1, z', ts1, h1, h2, h3, h4, h5, h6, h7⟩ := hS.ex
  have hz' : z'.length = e.places := by rw [← len_toList2, h2, letters_len]
  refine ⟨_, rfl, p, C, dx, _, _, rfl, h1, T.cl, T.a1, stF_letters .., _, z'.length, rfl, ⟨by rw [hz']; exact Nat.le_trans h40 (by decide), rfl⟩, _, _, rfl, rfl, ⟨by decide, by decide, by omega, by omega, by omega⟩, fun q0 hq0 => ?_⟩
  exact q q0 _ (same_upd hq0) hq0 (by rw [upd_same, rgV_nodes, hz'])
abbrev N__near : List Str := ["steps", "node"]
theorem sc__near : FnScope ["steps", "node"] ["steps", "node"] (defScope s__near) := ⟨rfl, rfl, rfl, by decide +kernel, rfl, by decide +kernel, by decide +kernel⟩
theorem ok_near {C f : Addr} {fd : FuncData} (T : StTxt K C) (B : Bt K mg a_BOUNDS a_LONG_BOUNDS tL tM) (Dd : Df K mg "_near" s__near ["steps", "node"] f fd) : FnOk P w K mg base CX0 1 f fd ["steps", "node"] (spNear C) := by
  refine Dd.F.ok sc__near (fun vs H Q Ex h => ?_) (fun cdv A outer s H vs Q Ex hr h => ?_)
  · obtain ⟨p, e, t, rfl, _⟩ := h
    rfl
  obtain ⟨p, e, t, rfl, hS, h40, ht, q⟩ := h
  refine ⟨_, (pss_one (ps_ret (pe_ifExp (pt_cmpR op_eq (pv 1) (pe_glob (v := .int (-1)) rfl B.g_BEGIN ⟨_, rfl⟩) (nomark _)) (pe_fld (pv 0) rfl) (pe_ix (r := rIxL K) ix_list (pe_fld (pv 0) rfl) (pv 1) (fun _ _ => rfl))))), ?_⟩
  obtain ⟨dx, f1, l1, o1, z', ts1, h1, h2, h3, h4, h5, h6, h7⟩ := hS.ex
  refine ⟨_, rfl, rfl, _, rfl, ite2 (fun c => ?_) (fun c => ?_)⟩
  · have e1 : ((t : Int) - 1) = -1 := V.int.inj (of_decide_eq_true c)
    have e2 : t = 0 := by omega
    refine ⟨_, rfl, p, C, dx, _, _, rfl, h1, T.cl, T.a3, stF_first .., q f1 ?_⟩
    unfold nearT
    rw [if_pos e2]
    exact h3
  · have e2 : t ≠ 0 := fun h => c (by rw [h]; rfl)
    obtain ⟨q1, e1, e3⟩ := h7 (t - 1) _ (List.getElem?_eq_getElem (by omega))
    refine ⟨_, rfl, p, C, dx, _, _, rfl, h1, T.cl, T.a5, stF_following .., _, rfl, o1, ts1, (t : Int) - 1, .ref q1, rfl, rfl, SqL.of h5, at_of (j := t - 1) (by omega) (by rw [List.getElem?_eq_getElem (by omega), e1]), q q1 ?_⟩
    unfold nearT
    rw [if_neg e2]
    exact e3
abbrev N__pairs_behind : List Str := ["steps", "node", "pairs", "row", "at", "one", "other"]
theorem sc__pairs_behind : FnScope ["steps", "node", "pairs", "row", "at", "one", "other"] ["steps", "node"] (defScope s__pairs_behind) := ⟨rfl, rfl, rfl, by decide +kernel, rfl, by decide +kernel, by decide +kernel⟩
theorem ok_pairs {C f : Addr} {fd : FuncData} (T : StTxt K C) (B : Bt K mg a_BOUNDS a_LONG_BOUNDS tL tM) (Dd : Df K mg "_pairs_behind" s__pairs_behind ["steps", "node"] f fd) (Gby_letter : Cl P w K mg base 1 "by_letter" ["steps", "near"] (spByL C)) (G_near : Cl P w K mg base 1 "_near" ["steps", "node"] (spNear C)) : FnOk P w K mg base CX0 2 f fd ["steps", "node"] (spPairs C) := by
  refine Dd.F.ok sc__pairs_behind (fun vs H Q Ex h => ?_) (fun cdv A outer s H vs Q Ex hr h => ?_)
  · obtain ⟨p, e, t, rfl, _⟩ := h
    rfl
  obtain ⟨p, e, t, rfl, hS, h40, ht, q⟩ := h
  refine ⟨_, (pss_cons (ps_set (i := 2) sc__pairs_behind.nd rfl (Or.inl rfl) (pe_lst pa_nil))
    (pss_cons (ps_for PassesOwn.never rfl (pi_values (pe_frz (pe_cl Gby_letter (hr.mono (by omega)) rfl (pa_cons (pv 0) (pa_cons (pe_cl G_near (hr.mono (by omega)) rfl (pa_cons (pv 0) (pa_cons (pv 1) pa_nil))) pa_nil))))) (pg_name (i := 3) sc__pairs_behind.nd rfl (Or.inl rfl)) (pss_one (ps_for PassesOwn.never rfl (pi_enumT rfl B.b_enumerate (pa_cons (pv 3) pa_nil)) (pg_tup rfl (pgs_cons (pg_name (i := 4) sc__pairs_behind.nd rfl (Or.inl rfl)) (pgs_cons (pg_name (i := 5) sc__pairs_behind.nd rfl (Or.inr rfl)) pgs_nil))) (pss_one (ps_expr (pe_bm PySem.F.plainAttrs_list PySem.F.slot_list_extend PySem.F.type_list_extend mt_extend (pv 2) (pa_cons (pe_lc (own := [("other", 6)]) (g := gName 6) (tt := tYes) rfl sc__pairs_behind.nd (pi_tup (pe_slice sl_tupA (pv 3) (po_some (pe_op op_add (pv 4) pe_int)) po_none)) (blkOk_by (N := N__pairs_behind) (sc := defScope s__pairs_behind) (by decide +kernel)) (fun _ _ _ _ _ => pg_name (i := 6) sc__pairs_behind.nd rfl (Or.inl rfl)) (fun _ _ _ _ _ => pts_nil) (fun _ _ _ _ _ => (pe_tup (pa_cons (pv 5) (pa_cons (pv 6) pa_nil))))) pa_nil)))))))
    (pss_one (ps_ret (pv 2))))), ?_⟩
  refine ⟨by show 0 ≤ sizeLine; decide, fun L hL => ?_⟩
  have sL := same_upd (o := .lst []) hL
  refine ⟨_, rfl, _, rfl, _, rfl, p, e, t, rfl, hS.same sL, h40, ht, fun nr hnr => ?_⟩
  refine ⟨p, nr, e, nearT e t, rfl, hS.same sL, h40, .inl hnr, nearT_lt e t, Nat.le_trans (nearT_len e t) h40, fun d kvs cs H2 s2 hd0 hdk hG => ?_⟩
  refine ⟨d, _, rfl, hdk, trivial, fun od => ?_⟩
  have S2 : Same H H2 := sL.trans s2
  have hdH : H d = none := by
    cases hh : H d with
    | none => rfl
    | some u => rw [sL _ _ hh] at hd0; cases hd0
  have hL2 : H2 L = some (.lst []) := s2 _ _ upd_same
  have hLd : L ≠ d := fun h => by rw [h, hdk] at hL2; cases hL2
  have kl : kvs.length = cs.length := hG.two.len
  have cl : cs.length ≤ 40 := Nat.le_trans hG.ln (Nat.le_trans (nearT_len e t) h40)
  have SF : Same H (upd H2 d (.frz od (.dK kvs))) := fun b o hb => by rw [upd_ne (ne_of_none hb hdH)]; exact S2 _ _ hb
  have TF : TK H2 (upd H2 d (.frz od (.dK kvs))) := TK.upd hdk fun xs z => by cases z
  refine ⟨d, od, kvs, rfl, upd_same, for_it walk_values (fun i σ' H' => ∃ (o3 o4 o5 o6 : Option V) (ts : List V) (ps : List (Nat × Nat)), σ' = [some (.ref p), some (.int ((t : Int) - 1)), some (.ref L), o3, o4, o5, o6] ∧ Same H H' ∧ TK H2 H' ∧ H' d = some (.frz od (.dK kvs)) ∧ H' L = some (.lst ts) ∧ Two (PairT H') ts ps ∧ (∀ i' j', (i', j') ∈ ps ↔ ∃ c ∈ cs.take i, i' ∈ rowL e (nearT e t) c ∧ j' ∈ rowL e (nearT e t) c ∧ i' < j') ∧ ps.length ≤ i * 1600) ?_ ?_ ?_ ?_⟩
  · exact ⟨none, none, none, none, [], [], rfl, SF, TF, upd_same, by rw [upd_ne hLd]; exact hL2, .nil, fun i' j' => ⟨(fun h => by cases h), fun ⟨c, h, _⟩ => by cases h⟩, Nat.zero_le _⟩
  · rintro i σ' H' _ ⟨o3, o4, o5, o6, ts, ps, rfl, _, _, h, _⟩
    exact h
  · rintro i v σ' H3 H3' hi ⟨o3, o4, o5, o6, ts, ps, rfl, s3, tk3, hfz, hL3, two3, mem3, len3⟩ ⟨rfl, kk, hkv⟩
    obtain ⟨c, hc, qv, ekv, hqv⟩ := hG.two.get hkv
    cases ekv
    have hrow := tk3 _ _ hqv
    have hcl := (List.getElem?_eq_some_iff.mp hc).1
    have rr : (rowL e (nearT e t) c).Pairwise (· < ·) := (nearT_rise e t).filter _
    have rl : (rowL e (nearT e t) c).length ≤ 40 := Nat.le_trans (List.length_filter_le _ _) (Nat.le_trans (nearT_len e t) h40)
    generalize hrw : rowL e (nearT e t) c = row at hrow rr rl
    refine ⟨_, rfl, qv, _, rfl, SqT.of hrow, for_enumT (K := K) (a := qv) (xs := natsV row) (fun k σ' H' => ∃ (o4 o5 o6 : Option V) (ts' : List V), σ' = [some (.ref p), some (.int ((t : Int) - 1)), some (.ref L), some (.ref qv), o4, o5, o6] ∧ Same H H' ∧ TK H3' H' ∧ H' d = some (.frz od (.dK kvs)) ∧ H' L = some (.lst ts') ∧ Two (PairT H') ts' (ps ++ prK row k)) ?_ ?_ ?_ ?_⟩
    · exact ⟨o4, o5, o6, ts, rfl, s3, TK.same (Same.refl _), hfz, hL3, by rw [show prK row 0 = [] from rfl, List.append_nil]; exact two3⟩
    · rintro k σ' H' _ ⟨o4, o5, o6, ts', rfl, _, tk4, _⟩
      exact SqT.of (tk4 _ _ hrow)
    · rintro k x T1 σ' H4 hx ⟨o4, o5, o6, ts', rfl, s4, tk4, hfz4, hL4, two4⟩ hT1
      obtain ⟨y, hy, rfl⟩ := natsV_getB hx
      have gy : row.getD k 0 = y := by rw [List.getD_eq_getElem?_getD, hy]; rfl
      have uT := same_upd (o := .tup [V.int (k : Nat), .int (y : Int)]) hT1
      refine ⟨T1, _, rfl, SqT.of upd_same, rfl, _, _, rfl, _, _, rfl, rfl, ?_⟩
      have hL5 := uT _ _ hL4
      refine ⟨_, rfl, .inl ⟨rfl, _, SqL.of hL5⟩, _, rfl, _, rfl, _, _, rfl, rfl, _, rfl, slA_lo (uT _ _ (tk4 _ _ hrow)) fun Z H5 s5 hZ => ⟨Z, rfl, ⟨_, SqT.of hZ⟩, fun D hD => ?_⟩⟩
      have hZ : H5 Z = some (.tup (cutV (natsV row) (some ((k : Int) + 1)) none)) := hZ
      rw [show ((k : Int) + 1) = ((k + 1 : Nat) : Int) by omega, cut_loN] at hZ
      have hL6 := s5 _ _ hL5
      have hLD : L ≠ D := ne_of_none hL6 hD
      have hkl := (List.getElem?_eq_some_iff.mp hy).1
      refine lc_tup (K := K) (a := Z) (xs := natsV (row.drop (k + 1))) (fun j H' => Same H5 H' ∧ ∃ us, H' D = some (.lst us) ∧ Two (PairT H') us (((row.drop (k + 1)).take j).map fun z => (y, z))) ⟨same_upd hD, [], upd_same, .nil⟩ (fun j H' _ h => SqT.of (h.1 _ _ hZ)) (fun j x H' hx h => ?_) (fun H' h => ?_)
      · obtain ⟨s6, us, hD6, two6⟩ := h
        obtain ⟨z, hz, rfl⟩ := natsV_getB hx
        have ul : us.length ≤ 40 := by
          rw [two6.len, List.length_map, List.length_take, List.length_drop]
          omega
        refine ⟨rfl, tyes ⟨_, rfl, _, rfl, by show 2 ≤ sizeLine; decide, fun T2 hT2 => ⟨us, (same_upd hT2) _ _ hD6, Nat.lt_of_le_of_lt ul (by decide), fun b o hb => ?_, us ++ [.ref T2], upd_same, ?_⟩⟩⟩
        · rw [upd_ne (ne_of_none hb hD)]
          exact (same_upd hT2) _ _ (s6 _ _ hb)
        · rw [take_snoc hz, List.map_append]
          have tk := (TK.same (same_upd (o := .tup [V.int (y : Int), V.int (z : Int)]) hT2)).trans (TK.upd (o := .lst (us ++ [.ref T2])) ((same_upd hT2) _ _ hD6) fun xs z => by cases z)
          refine (two6.mono fun _ _ h => h.tk tk).app (.cons ⟨T2, rfl, ?_⟩ .nil)
          rw [upd_ne fun e => by rw [e, hD6] at hT2; cases hT2]
          exact upd_same
      · obtain ⟨s6, us, hD6, two6⟩ := h
        rw [natsV_len, List.take_length] at two6
        have ul : us.length ≤ 40 := by
          rw [two6.len, List.length_map, List.length_drop]
          omega
        have tl : ts'.length ≤ 65600 := by
          rw [two4.len, List.length_append]
          have h1 := prK_len row k
          have h2 : k * row.length ≤ 40 * 40 := Nat.mul_le_mul (by omega) rl
          have h3 : i * 1600 ≤ 40 * 1600 := Nat.mul_le_mul_right _ (by omega)
          omega
        have S6 := uT.trans (s5.trans s6)
        have hL7 := s6 _ _ hL6
        have tk7 : TK H4 (upd H' L (.lst (ts' ++ us))) := (TK.same S6).trans (TK.upd hL7 fun xs z => by cases z)
        refine ⟨L, D, ts', us, rfl, rfl, hL7, hD6, Nat.le_trans (m := 65640) (by omega) (by decide), ?_⟩
        refine ⟨_, _, _, _, rfl, fun b o hb => ?_, tk4.trans tk7, ?_, upd_same, ?_⟩
        · rw [upd_ne (ne_of_none hb hL)]
          exact S6 _ _ (s4 _ _ hb)
        · rw [upd_ne hLd.symm]
          exact S6 _ _ hfz4
        · rw [prK_succ, gy, ← List.append_assoc]
          exact (two4.mono fun _ _ h => h.tk tk7).app (two6.mono fun _ _ h => h.tk (TK.upd hL7 fun xs z => by cases z))
    · rintro σ' H4 ⟨o4, o5, o6, ts', rfl, s4, tk4, hfz4, hL4, two4⟩
      refine ⟨_, o4, o5, o6, ts', _, rfl, s4, tk3.trans tk4, hfz4, hL4, two4, fun i' j' => ?_, ?_⟩
      · rw [natsV_len, List.mem_append, mem3, prK_mem rr, take_snoc hc]
        constructor
        · rintro (⟨c', h1, h2⟩ | h)
          · exact ⟨c', List.mem_append_left _ h1, h2⟩
          · exact ⟨c, List.mem_append_right _ List.mem_cons_self, by rw [hrw]; exact h⟩
        · rintro ⟨c', h1, h2⟩
          rcases List.mem_append.mp h1 with h1 | h1
          · exact .inl ⟨c', h1, h2⟩
          · rw [List.mem_singleton.mp h1, hrw] at h2
            exact .inr h2
      · have := prK_len row row.length
        have h2 : row.length * row.length ≤ 40 * 40 := Nat.mul_le_mul rl rl
        rw [natsV_len, List.length_append, Nat.succ_mul]
        omega
  · rintro σ' H3 ⟨o3, o4, o5, o6, ts, ps, rfl, s3, tk3, hfz, hL3, two3, mem3, len3⟩
    refine ⟨_, rfl, q L ts ps H3 s3 hL hL3 two3 (fun i j => ?_) ?_⟩
    · rw [mem3, kl, List.take_length]
      unfold prB
      rw [decide_eq_true_eq]
      constructor
      · rintro ⟨c, _, h1, h2, h3⟩
        rw [rowL_mem] at h1 h2
        exact ⟨h1.1, h2.1, h3, by rw [h1.2, h2.2]⟩
      · rintro ⟨h1, h2, h3, h4⟩
        have hil : i < e.letters.length := by rw [letters_len]; exact nearT_lt e t i h1
        have hr : i ∈ rowL e (nearT e t) e.letters[i] := rowL_mem.mpr ⟨h1, List.getElem?_eq_getElem hil⟩
        exact ⟨e.letters[i], (hG.mem _).mpr (fun h => by rw [h] at hr; cases hr), hr, rowL_mem.mpr ⟨h2, by rw [← h4]; exact List.getElem?_eq_getElem hil⟩, h3⟩
    · have : kvs.length * 1600 ≤ 40 * 1600 := Nat.mul_le_mul_right _ (by omega)
      omega
end
end My
namespace My
open PySem PySem.Spec PyProof.Rows L2
def rLenOf (K : PySem.W.Frag) : List V → Hp → VK → Prop := fun xs H Q => ∃ x n, xs = [x] ∧ LenV K x H n ∧ Q (.int (n : Nat)) H
theorem call_lenK {X : Cx} : CallR X (.builtin "len") (rLenOf X.K) := call_len
theorem len_toList3 (z : Str) : z.cps.toList.length = z.length := Array.length_toList
/-! ### pairs in their order -/
def ltP (x y : Nat × Nat) : Prop := x.1 < y.1 ∨ (x.1 = y.1 ∧ x.2 < y.2)
theorem ltP_irr (x : Nat × Nat) : ¬ ltP x x := fun h => by rcases h with h | ⟨_, h⟩ <;> omega
theorem ltP_as {x y : Nat × Nat} (h : ltP x y) (k : ltP y x) : False := by
  rcases h with h | ⟨h, h'⟩ <;> rcases k with k | ⟨k, k'⟩ <;> omega
theorem eq_of_ltP : ∀ (a b : List (Nat × Nat)), a.Pairwise ltP → b.Pairwise ltP → (∀ x, x ∈ a ↔ x ∈ b) → a = b
  | [], [], _, _, _ => rfl
  | [], y :: b, _, _, h => by have := (h y).mpr List.mem_cons_self; cases this
  | x :: a, [], _, _, h => by have := (h x).mp List.mem_cons_self; cases this
  | x :: a, y :: b, ha, hb, h => by
    rw [List.pairwise_cons] at ha hb
    have e : x = y := by
      rcases List.mem_cons.mp ((h x).mp List.mem_cons_self) with c | c
      · exact c
      · rcases List.mem_cons.mp ((h y).mpr List.mem_cons_self) with d | d
        · exact d.symm
        · exact (ltP_as (hb.1 x c) (ha.1 y d)).elim
    subst e
    rw [eq_of_ltP a b ha.2 hb.2 fun z => ?_]
    constructor
    · intro hz
      rcases List.mem_cons.mp ((h z).mp (List.mem_cons_of_mem _ hz)) with c | c
      · exact (ltP_irr x (c ▸ ha.1 z hz)).elim
      · exact c
    · intro hz
      rcases List.mem_cons.mp ((h z).mpr (List.mem_cons_of_mem _ hz)) with c | c
      · exact (ltP_irr x (c ▸ hb.1 z hz)).elim
      · exact c
def pI (x : Nat × Nat) : List Int := [(x.1 : Int), (x.2 : Int)]
def unI : List Int → Nat × Nat
  | [a, b] => (a.toNat, b.toNat)
  | _ => (0, 0)
theorem unI_pI (x : Nat × Nat) : unI (pI x) = x := by
  show ((x.1 : Int).toNat, (x.2 : Int).toNat) = x
  rw [Int.toNat_natCast, Int.toNat_natCast]
theorem sorted_pairs {ks : List (List Int)} {prs : List (Nat × Nat)} (hp : ks.Perm (prs.map pI)) (hs : ks.Pairwise fun x y => HT.lexLt y x = false) (nd : prs.Nodup) : ∃ qs : List (Nat × Nat), ks = qs.map pI ∧ qs.Perm prs ∧ qs.Pairwise ltP := by
  have e1 : (ks.map unI).map pI = ks := by
    rw [List.map_map]
    have : ∀ k ∈ ks, (pI ∘ unI) k = k := fun k hk => by
      obtain ⟨x, _, rfl⟩ := List.mem_map.mp (hp.mem_iff.mp hk)
      show pI (unI (pI x)) = pI x
      rw [unI_pI]
    rw [List.map_congr_left this]
    exact List.map_id' ks
  have e2 : (ks.map unI).Perm prs := by
    have := hp.map unI
    rw [List.map_map, show unI ∘ pI = id from funext unI_pI, List.map_id] at this
    exact this
  refine ⟨ks.map unI, e1.symm, e2, ?_⟩
  rw [← e1, List.pairwise_map] at hs
  have nq : (ks.map unI).Nodup := e2.nodup_iff.mpr nd
  refine (hs.and nq).imp fun {x y} ⟨h1, h2⟩ => ?_
  have h1 : (if (y.1 : Int) = (x.1 : Int) then (if (y.2 : Int) = (x.2 : Int) then false else decide ((y.2 : Int) < (x.2 : Int))) else decide ((y.1 : Int) < (x.1 : Int))) = false := h1
  by_cases c1 : (y.1 : Int) = (x.1 : Int)
  · rw [if_pos c1] at h1
    by_cases c2 : (y.2 : Int) = (x.2 : Int)
    · exact absurd (Prod.ext (by omega) (by omega)) h2
    · rw [if_neg c2] at h1
      have := of_decide_eq_false h1
      exact .inr ⟨by omega, by omega⟩
  · rw [if_neg c1] at h1
    have := of_decide_eq_false h1
    exact .inl (by omega)
theorem two_pI {R : V → List Int → Prop} {R' : V → Nat × Nat → Prop} (h : ∀ y x, R y (pI x) → R' y x) : ∀ {ys : List V} {qs : List (Nat × Nat)}, Two R ys (qs.map pI) → Two R' ys qs
  | _, [], t => by
    cases t
    exact .nil
  | _, q :: qs, t => by
    have t : Two R _ (pI q :: qs.map pI) := t
    cases t with
    | cons r t => exact .cons (h _ _ r) (two_pI h t)
def cfB (e : E) (i j : Nat) : Bool := (List.range (e.places + 1)).any fun t => prB e (nearT e t) i j
def pairsN (n : Nat) : List (Nat × Nat) := (List.range n).flatMap fun i => (List.range n).map fun j => (i, j)
/-- the pairs in conflict, in their order -/
def confL (e : E) : List (Nat × Nat) := (pairsN e.places).filter fun x => cfB e x.1 x.2
theorem pairsN_sorted (n : Nat) : (pairsN n).Pairwise ltP := by
  unfold pairsN
  rw [List.pairwise_flatMap]
  refine ⟨fun i _ => ?_, List.pairwise_lt_range.imp fun {i j} h x hx y hy => ?_⟩
  · rw [List.pairwise_map]
    exact List.pairwise_lt_range.imp fun h => .inr ⟨rfl, h⟩
  · obtain ⟨a, _, rfl⟩ := List.mem_map.mp hx
    obtain ⟨b, _, rfl⟩ := List.mem_map.mp hy
    exact .inl h
theorem pairsN_mem {n : Nat} {x : Nat × Nat} : x ∈ pairsN n ↔ x.1 < n ∧ x.2 < n := by
  unfold pairsN
  rw [List.mem_flatMap]
  constructor
  · rintro ⟨i, hi, hx⟩
    obtain ⟨j, hj, rfl⟩ := List.mem_map.mp hx
    exact ⟨List.mem_range.mp hi, List.mem_range.mp hj⟩
  · rintro ⟨h1, h2⟩
    exact ⟨x.1, List.mem_range.mpr h1, List.mem_map.mpr ⟨x.2, List.mem_range.mpr h2, rfl⟩⟩
theorem confL_sorted (e : E) : (confL e).Pairwise ltP := (pairsN_sorted _).filter _
theorem cf_iff {e : E} {i j : Nat} : cfB e i j = true ↔ ∃ t ≤ e.places, prB e (nearT e t) i j = true := by
  unfold cfB
  rw [List.any_eq_true]
  constructor
  · rintro ⟨t, ht, h⟩
    exact ⟨t, by have := List.mem_range.mp ht; omega, h⟩
  · rintro ⟨t, ht, h⟩
    exact ⟨t, List.mem_range.mpr (by omega), h⟩
theorem pr_lt {e : E} {t i j : Nat} (h : prB e (nearT e t) i j = true) : i < e.places ∧ j < e.places := by
  have h := of_decide_eq_true h
  exact ⟨nearT_lt e t i h.1, nearT_lt e t j h.2.1⟩
theorem confL_mem {e : E} {i j : Nat} : (i, j) ∈ confL e ↔ ∃ t ≤ e.places, prB e (nearT e t) i j = true := by
  unfold confL
  rw [List.mem_filter, pairsN_mem]
  constructor
  · rintro ⟨_, h⟩
    exact cf_iff.mp h
  · intro h
    obtain ⟨t, ht, h⟩ := h
    exact ⟨pr_lt h, cf_iff.mpr ⟨t, ht, h⟩⟩
theorem confL_len (e : E) (h : e.places ≤ 40) : (confL e).length ≤ 1600 := by
  refine Nat.le_trans (List.length_filter_le _ _) ?_
  unfold pairsN
  rw [List.length_flatMap]
  simp only [List.length_map, List.length_range]
  rw [List.map_const', List.sum_replicate_nat, List.length_range]
  exact Nat.mul_le_mul h h
def confB (e : E) : Bool := !(confL e).isEmpty
/-! ### a dict of pairs -/
def kk (x : Nat × Nat) : List L2.Key := [Sum.inl (x.1 : Int), Sum.inl (x.2 : Int)]
def dtK (prs : List (Nat × Nat)) : List (List L2.Key × V) := prs.map fun x => (kk x, V.bl true)
theorem kk_inj {x y : Nat × Nat} (h : kk x = kk y) : x = y := by
  have h1 := (List.cons.inj h).1
  have h2 := (List.cons.inj (List.cons.inj h).2).1
  have := Sum.inl.inj h1
  have := Sum.inl.inj h2
  exact Prod.ext (by omega) (by omega)
theorem dtK_any (prs : List (Nat × Nat)) (x : Nat × Nat) : ((dtK prs).any fun kv => decide (kv.1 = kk x)) = decide (x ∈ prs) := by
  induction prs with
  | nil => rfl
  | cons y prs ih =>
    show (decide (kk y = kk x) || ((dtK prs).any fun kv => decide (kv.1 = kk x))) = _
    rw [ih, ← Bool.decide_or]
    refine decide_eq_decide.mpr ?_
    rw [List.mem_cons]
    exact ⟨fun h => h.elim (fun h => .inl (kk_inj h).symm) .inr, fun h => h.elim (fun h => .inl (by rw [h])) .inr⟩
def addP (prs : List (Nat × Nat)) (x : Nat × Nat) : List (Nat × Nat) := if x ∈ prs then prs else prs ++ [x]
theorem dtK_put (prs : List (Nat × Nat)) (x : Nat × Nat) : putK (dtK prs) (kk x) (V.bl true) = dtK (addP prs x) := by
  unfold putK addP
  rw [dtK_any]
  by_cases h : x ∈ prs
  · rw [if_pos (decide_eq_true h), if_pos h]
    have : ∀ kv ∈ dtK prs, (fun kv : List L2.Key × V => if kv.1 = kk x then (kv.1, V.bl true) else kv) kv = id kv := fun kv hkv => by
      obtain ⟨y, _, rfl⟩ := List.mem_map.mp hkv
      show (if kk y = kk x then (kk y, V.bl true) else (kk y, V.bl true)) = (kk y, V.bl true)
      split <;> rfl
    rw [List.map_congr_left this, List.map_id]
  · rw [if_neg (by rw [decide_eq_false h]; exact Bool.false_ne_true), if_neg h]
    unfold dtK
    rw [List.map_append]
    rfl
theorem addP_mem {prs : List (Nat × Nat)} {x y : Nat × Nat} : y ∈ addP prs x ↔ y ∈ prs ∨ y = x := by
  unfold addP
  split
  · rename_i h
    exact ⟨.inl, fun k => k.elim id fun k => k ▸ h⟩
  · rw [List.mem_append, List.mem_singleton]
theorem addP_nd {prs : List (Nat × Nat)} {x : Nat × Nat} (h : prs.Nodup) : (addP prs x).Nodup := by
  unfold addP
  split
  · exact h
  · rename_i hx
    rw [List.nodup_append]
    exact ⟨h, by simp, fun a ha b hb => by rw [List.mem_singleton.mp hb]; rintro rfl; exact hx ha⟩
theorem prs_len {prs : List (Nat × Nat)} (nd : prs.Nodup) (h : ∀ x ∈ prs, x.1 < 40 ∧ x.2 < 40) : prs.length ≤ 1600 := by
  have := nodup_len 1600 (prs.map fun x => ((x.1 * 40 + x.2 : Nat) : Int)) ?_ fun k hk => ?_
  · rw [List.length_map] at this
    exact this
  · refine List.pairwise_map.mpr (nd.imp_of_mem fun {x y} hx hy hne he => hne ?_)
    have h1 := h x hx
    have h2 := h y hy
    exact Prod.ext (by omega) (by omega)
  · obtain ⟨x, hx, rfl⟩ := List.mem_map.mp hk
    have := h x hx
    omega
def spHasC (C : Addr) : Sp := fun vs H Q _ => ∃ (p : Addr) (e : E), vs = [.ref p] ∧ StepsAt C H p e ∧ e.places ≤ 40 ∧ ∀ H', Same H H' → Q (.bl (confB e)) H'
theorem nodes_get {n k : Nat} {x : V} (h : ((List.range n).map fun (t : Nat) => V.int ((t : Int) - 1))[k]? = some x) : k < n ∧ x = V.int ((k : Int) - 1) := by
  rw [List.getElem?_map] at h
  obtain ⟨t, ht, rfl⟩ := Option.map_eq_some_iff.mp h
  have hk := (List.getElem?_eq_some_iff.mp ht).1
  rw [List.length_range] at hk
  rw [List.getElem?_range hk] at ht
  cases ht
  exact ⟨hk, rfl⟩
def hasT (e : E) (t : Nat) : Bool := (pairsN e.places).any fun x => prB e (nearT e t) x.1 x.2
theorem hasT_len {e : E} {t : Nat} {ps : List (Nat × Nat)} (h : ∀ i j, (i, j) ∈ ps ↔ prB e (nearT e t) i j = true) : decide (0 < ps.length) = hasT e t := by
  unfold hasT
  rw [Bool.eq_iff_iff, List.any_eq_true, decide_eq_true_eq]
  constructor
  · intro hl
    obtain ⟨x, hx⟩ := List.exists_mem_of_length_pos hl
    have hx := (h x.1 x.2).mp hx
    exact ⟨x, pairsN_mem.mpr (pr_lt hx), hx⟩
  · rintro ⟨x, _, hx⟩
    exact List.length_pos_of_mem ((h x.1 x.2).mpr hx)
theorem conf_any (e : E) : ((List.range (e.places + 1)).map (hasT e)).any id = confB e := by
  unfold confB
  rw [List.any_map, Bool.eq_iff_iff, List.any_eq_true, Bool.not_eq_true', List.isEmpty_eq_false_iff]
  constructor
  · rintro ⟨t, ht, h⟩
    have ht := List.mem_range.mp ht
    obtain ⟨x, _, hx⟩ := List.any_eq_true.mp (show hasT e t = true from h)
    exact List.ne_nil_of_mem (confL_mem.mpr ⟨t, by omega, hx⟩)
  · intro h
    obtain ⟨x, hx⟩ := List.exists_mem_of_ne_nil _ h
    obtain ⟨t, ht, h⟩ := confL_mem.mp (show (x.1, x.2) ∈ confL e from hx)
    exact ⟨t, List.mem_range.mpr (by omega), List.any_eq_true.mpr ⟨x, pairsN_mem.mpr (pr_lt h), h⟩⟩
section
variable {P : Program} {w : World} {K : PySem.W.Frag} {mg : Str → Option Value} {base : Heap} {a_BOUNDS a_LONG_BOUNDS : Addr} {tL tM : Tok}
abbrev N_has_conflict : List Str := ["steps", "node"]
theorem sc_has_conflict : FnScope ["steps", "node"] ["steps"] (defScope s_has_conflict) := ⟨rfl, rfl, rfl, by decide +kernel, rfl, by decide +kernel, by decide +kernel⟩
theorem ok_hasc {C f : Addr} {fd : FuncData} (T : StTxt K C) (B : Bt K mg a_BOUNDS a_LONG_BOUNDS tL tM) (Dd : Df K mg "has_conflict" s_has_conflict ["steps"] f fd) (G_nodes : Cl P w K mg base 1 "_nodes" ["steps"] (spNodes C)) (G_pairs_behind : Cl P w K mg base 2 "_pairs_behind" ["steps", "node"] (spPairs C)) : FnOk P w K mg base CX0 3 f fd ["steps"] (spHasC C) := by
  refine Dd.F.ok sc_has_conflict (fun vs H Q Ex h => ?_) (fun cdv A outer s H vs Q Ex hr h => ?_)
  · obtain ⟨p, e, rfl, _⟩ := h
    rfl
  obtain ⟨p, e, rfl, hS, h40, q⟩ := h
  refine ⟨_, (pss_one (ps_ret (pe_callB (cr_any rfl) rfl B.b_any boot_any (pa_cons (pe_lc (own := [("node", 1)]) (g := gName 1) (tt := tYes) rfl sc_has_conflict.nd (pi_list (pe_cl G_nodes (hr.mono (by omega)) rfl (pa_cons (pv 0) pa_nil))) (blkOk_by (N := N_has_conflict) (sc := defScope s_has_conflict) (by decide +kernel)) (fun _ _ _ _ _ => pg_name (i := 1) sc_has_conflict.nd rfl (Or.inl rfl)) (fun _ _ _ _ _ => pts_nil) (fun _ _ _ _ _ => (pe_cmpR op_gt (pe_callB (r := rLenOf K) call_lenK rfl B.b_len boot_len (pa_cons (pe_cl G_pairs_behind (hr.mono (by omega)) rfl (pa_cons (pv 0) (pa_cons (pv 1) pa_nil))) pa_nil)) pe_int (nomark _)))) pa_nil)))), ?_⟩
  refine ⟨_, rfl, p, e, rfl, hS, h40, fun q0 H1 s1 hq0 hq1 => ⟨q0, rfl, ⟨_, SqL.of hq1⟩, fun D hD => ?_⟩⟩
  refine lc_listR (K := K) (a := q0) (fun i => ((List.range (min i (e.places + 1))).map (hasT e)).map V.bl) rfl (fun i => by rw [List.length_map, List.length_map, List.length_range]; omega) hD (SqL.of hq1) (fun i x H' hx s2 fin _ => ?_) (fun H' s2 hk' => ?_)
  · obtain ⟨hi, rfl⟩ := nodes_get hx
    refine ⟨rfl, tyes ⟨_, rfl, _, rfl, p, e, i, rfl, hS.same (s1.trans s2), h40, by omega, fun q ts ps H3 s3 _ hq2 two hm _ => ⟨_, ts.length, rfl, .inl ⟨_, SqL.of hq2, rfl⟩, _, _, rfl, rfl, fin _ _ ?_ s3⟩⟩⟩
    rw [two.len, Nat.min_eq_left (by omega), Nat.min_eq_left (by omega), List.range_succ, List.map_append, List.map_append]
    congr 1
    show [V.bl (hasT e i)] = [V.bl (decide ((0 : Int) < (ps.length : Int)))]
    rw [← hasT_len hm]
    congr 2
    exact decide_eq_decide.mpr (by omega)
  · rw [List.length_map, List.length_range, Nat.min_self] at hk'
    refine ⟨D, _, rfl, SqL.of hk', ?_⟩
    rw [conf_any]
    exact q _ (s1.trans s2)
end
end My
namespace My
open PySem PySem.Spec PyProof.Rows L2
/-! ### drawn expressions -/
def outS : Option Bool → Str
  | none => sNo
  | some false => sJoin
  | some true => sOr
def rowOf : E → Option Bool
  | .join _ => some false
  | .alt _ => some true
  | _ => none
/-- the parts that a drawn expression of such a depth has at most -/
def pb : Nat → Nat
  | 0 => 1
  | n + 1 => 1 + 3 * pb n
theorem pb_mono {m n : Nat} (h : m ≤ n) : pb m ≤ pb n := by
  induction h with
  | refl => exact Nat.le_refl _
  | step _ ih =>
    refine Nat.le_trans ih ?_
    rw [pb]
    omega
structure Drawn (e : E) (room deep : Nat) (outer : Option Bool) : Prop where
  ok : e.ok = true
  pl : e.places ≤ room
  dp : e.depth ≤ deep
  pt : e.parts ≤ pb deep
  hd : rowOf e = none ∨ rowOf e ≠ outer
def Lets (z : Str) : Prop := 0 < z.length ∧ z.length ≤ 100 ∧ ∀ c ∈ z.cps.toList, 97 ≤ c ∧ c ≤ 100
def spGrown (n : Nat) : Sp := fun vs H Q _ => ∃ (a : Addr) (z : Str) (room deep : Nat) (outer : Option Bool), vs = [.ref a, .str z, .int room, .int deep, .str (outS outer)] ∧ Strm H a ∧ Lets z ∧ room ≤ 100 ∧ deep < n ∧
  ∀ v H' e, Go a H H' → Rep H' v e.toD → Drawn e room deep outer → Q v H'
section
variable {P : Program} {w : World} {K : PySem.W.Frag} {mg : Str → Option Value} {base : Heap} {a_BOUNDS a_LONG_BOUNDS : Addr} {tL tM : Tok}
theorem none_left {f : Addr} {fd : FuncData} {k : Nat} {ps : List Str} {sp : Sp} (no : ∀ vs H Q E, ¬ sp vs H Q E) : FnOk P w K mg base CX0 k f fd ps sp :=
  ⟨fun vs H Q E h => absurd h (no vs H Q E), fun A outer s H args us vs Q E _ _ _ _ h => absurd h (no vs H Q E)⟩
theorem mem_signs {v : V} {z : Str} (h : v ∈ signsV z) : ∃ c ∈ z.cps.toList, v = .str ⟨#[c]⟩ := by
  unfold signsV at h
  rw [List.mem_map] at h
  obtain ⟨c, hc, rfl⟩ := h
  exact ⟨c, hc, rfl⟩
theorem rep_sym {H : Hp} (c : Nat) : Rep H (.str ⟨#[c]⟩) (E.sym c).toD := by
  rw [E.toD]
  exact .str (by show 1 ≤ 1000; decide)
theorem rep_eps {H : Hp} : Rep H (.str sNo) E.eps.toD := by
  rw [E.toD]
  exact .str (by rw [lE]; decide)
theorem drawn_sym {c room deep : Nat} {outer : Option Bool} (h : 97 ≤ c ∧ c ≤ 100) (hr : 0 < room) : Drawn (.sym c) room deep outer where
  ok := by
    rw [E.ok, decide_eq_true h.1, decide_eq_true h.2]
    rfl
  pl := by rw [E.places]; omega
  dp := by rw [E.depth]; omega
  pt := by rw [E.parts]; exact Nat.le_trans (by decide) (pb_mono (Nat.zero_le deep))
  hd := .inl rfl
theorem drawn_eps {room deep : Nat} {outer : Option Bool} : Drawn .eps room deep outer where
  ok := rfl
  pl := by rw [E.places]; omega
  dp := by rw [E.depth]; omega
  pt := by rw [E.parts]; exact Nat.le_trans (by decide) (pb_mono (Nat.zero_le deep))
  hd := .inl rfl
theorem signs_len (z : Str) : (signsV z).length = z.length := by
  unfold signsV
  rw [List.length_map, Array.length_toList]
  rfl
theorem outS_inj {x y : Option Bool} (h : outS x = outS y) : x = y := by
  match x, y, h with
  | none, none, _ => rfl
  | none, some false, h => exact absurd h.symm je
  | none, some true, h => exact absurd h.symm oe
  | some false, none, h => exact absurd h je
  | some true, none, h => exact absurd h oe
  | some false, some false, _ => rfl
  | some true, some true, _ => rfl
  | some false, some true, h => exact absurd h jo
  | some true, some false, h => exact absurd h.symm jo
theorem any_no {α : Type} {p : α → Bool} {xs : List α} (h : ∀ x ∈ xs, p x = false) : xs.any p = false := by
  rw [List.any_eq_false]
  intro x hx c
  rw [h x hx] at c
  cases c
theorem sum_le_mul {es : List E} {f : E → Nat} {n : Nat} (h : ∀ e ∈ es, f e ≤ n) : (es.map f).sum ≤ es.length * n := by
  induction es with
  | nil => exact Nat.zero_le _
  | cons e es ih =>
    have h1 := h e (List.mem_cons_self ..)
    have h2 := ih fun x hx => h x (List.mem_cons_of_mem _ hx)
    rw [List.map_cons, List.sum_cons, List.length_cons, Nat.succ_mul]
    omega
end
end My
namespace My
open PySem PySem.Spec PyProof.Rows L2
/-! ### wraps and rows -/
def wrapE (b : Bool) (e : E) : E := if b then .many e else .maybe e
theorem wrap_ok (b : Bool) (e : E) : (wrapE b e).ok = e.ok := by
  cases b
  · show E.ok (.maybe e) = _
    rw [E.ok]
  · show E.ok (.many e) = _
    rw [E.ok]
theorem wrap_places (b : Bool) (e : E) : (wrapE b e).places = e.places := by
  cases b
  · show E.places (.maybe e) = _
    rw [E.places]
  · show E.places (.many e) = _
    rw [E.places]
theorem wrap_leaves (b : Bool) (e : E) : (wrapE b e).leaves = e.leaves := by
  cases b
  · show E.leaves (.maybe e) = _
    rw [E.leaves]
  · show E.leaves (.many e) = _
    rw [E.leaves]
theorem wrap_wr (b : Bool) (e : E) : (wrapE b e).wr = e.wr + 1 := by
  cases b
  · show E.wr (.maybe e) = _
    rw [E.wr]
  · show E.wr (.many e) = _
    rw [E.wr]
def wrapW (b : Bool) : Str := if b then sMany else sMaybe
theorem wrap_rep {H : Hp} {p : Addr} {v : V} {b : Bool} {e : E} (h : H p = some (.tup [.str (wrapW b), v])) (r : Rep H v e.toD) : Rep H (.ref p) (wrapE b e).toD := by
  cases b
  · show Rep H _ (E.toD (.maybe e))
    rw [E.toD]
    exact Rep.tup2 h (by show 2 ≤ 100000; decide) (.cons (.str (by show sMaybe.length ≤ 1000; rw [lM]; decide)) (.cons r .nil))
  · show Rep H _ (E.toD (.many e))
    rw [E.toD]
    exact Rep.tup2 h (by show 2 ≤ 100000; decide) (.cons (.str (by show sMany.length ≤ 1000; rw [lN]; decide)) (.cons r .nil))
theorem wrap_at (c : Bool) : atI [V.str sMaybe, V.str sMany] (if c = true then 1 else 0) = some (.str (wrapW c)) := by
  cases c
  · exact at_zero
  · exact at_one
/-- a row put together of any parts -/
theorem row_depth (b : Bool) (es : List E) : (rowE b es).depth = E.depth.depths es + 1 := by
  cases b
  · show E.depth (.alt es) = _
    rw [E.depth]
  · show E.depth (.join es) = _
    rw [E.depth]
theorem row_parts (b : Bool) (es : List E) : (rowE b es).parts = (es.map E.parts).sum + 1 := by
  cases b
  · show E.parts (.alt es) = _
    rw [E.parts, partss_eq]
  · show E.parts (.join es) = _
    rw [E.parts, partss_eq]
theorem wrap_depth (b : Bool) (e : E) : (wrapE b e).depth = e.depth + 1 := by
  cases b
  · show E.depth (.maybe e) = _
    rw [E.depth]
  · show E.depth (.many e) = _
    rw [E.depth]
theorem wrap_parts (b : Bool) (e : E) : (wrapE b e).parts = e.parts + 1 := by
  cases b
  · show E.parts (.maybe e) = _
    rw [E.parts]
  · show E.parts (.many e) = _
    rw [E.parts]
end My
namespace My
open PySem PySem.Spec PyProof.Rows L2
theorem row_kids (b : Bool) (es : List E) : (rowE b es).kids = es := by cases b <;> rfl
theorem wrap_kids (b : Bool) (e : E) : (wrapE b e).kids = [e] := by cases b <;> rfl
theorem row_places (b : Bool) (es : List E) : (rowE b es).places = E.places.placess es := by
  cases b
  · show E.places (.alt es) = _
    rw [E.places]
  · show E.places (.join es) = _
    rw [E.places]
theorem row_letters (b : Bool) (es : List E) : (rowE b es).letters = E.letters.letterss es := by
  cases b
  · show E.letters (.alt es) = _
    rw [E.letters]
  · show E.letters (.join es) = _
    rw [E.letters]
theorem wrap_letters (b : Bool) (e : E) : (wrapE b e).letters = e.letters := by
  cases b
  · show E.letters (.maybe e) = _
    rw [E.letters]
  · show E.letters (.many e) = _
    rw [E.letters]
theorem node2 {H : Hp} {v : V} {e : E} (hok : e.ok = true) (hR : Rep H v e.toD) (hs : ¬ isStr e.toD = true) : ∃ (w : Str) (p : Addr) (x : V), v = .ref p ∧ H p = some (.tup [.str w, x]) ∧ w.length ≤ 1000 ∧
    ((inV (V.str w) [V.str sMaybe, V.str sMany] = true ∧ ∃ b k, w = wrapW b ∧ e = wrapE b k ∧ Rep H x k.toD ∧ k.ok = true ∧ k.depth + 1 ≤ e.depth) ∨
     (inV (V.str w) [V.str sMaybe, V.str sMany] = false ∧ ∃ b es p2 xs, w = rowW b ∧ e = rowE b es ∧ x = .ref p2 ∧ H p2 = some (.tup xs) ∧ xs.length ≤ 100000 ∧ Two (Rep H) xs (es.map E.toD) ∧ ∀ k ∈ es, k.ok = true ∧ k.depth + 1 ≤ e.depth)) := by
  obtain ⟨w, y, p, x, hw, hv, hp, hx, h⟩ := node_of hok hR hs
  refine ⟨w, p, x, hv, hp, hw, ?_⟩
  have kd : ∀ k ∈ e.kids, k.ok = true ∧ k.depth + 1 ≤ e.depth := fun k hk => ⟨ok_kids hok k hk, depth_kids e k hk⟩
  rcases h with (⟨rfl, k, rfl, rfl⟩ | ⟨rfl, k, rfl, rfl⟩) | (⟨rfl, es, rfl, h2, rfl⟩ | ⟨rfl, es, rfl, h2, rfl⟩)
  · exact .inl ⟨by decide +kernel, false, k, rfl, rfl, hx, kd k (by rw [E.kids]; exact List.mem_singleton.mpr rfl)⟩
  · exact .inl ⟨by decide +kernel, true, k, rfl, rfl, hx, kd k (by rw [E.kids]; exact List.mem_singleton.mpr rfl)⟩
  · obtain ⟨p2, xs, h3, h4, h5, h6⟩ := hx.untup
    exact .inr ⟨by decide +kernel, true, es, p2, xs, rfl, rfl, h3, h4, h5, h6, kd⟩
  · obtain ⟨p2, xs, h3, h4, h5, h6⟩ := hx.untup
    exact .inr ⟨by decide +kernel, false, es, p2, xs, rfl, rfl, h3, h4, h5, h6, kd⟩
/-- a leaf is its letters -/
theorem leaf2 {H : Hp} {v : V} {e : E} (hR : Rep H v e.toD) (hs : isStr e.toD = true) : ∃ z : Str, v = .str z ∧ z.cps.toList = e.letters ∧ z.length = e.places ∧ ((z = sNo ∧ e = .eps) ∨ ∃ c, z = ⟨#[c]⟩ ∧ e = .sym c) := by
  cases e with
  | eps =>
    rw [E.toD] at hR
    cases hR with
    | str h => exact ⟨_, rfl, by decide +kernel, by decide +kernel, .inl ⟨rfl, rfl⟩⟩
  | sym c =>
    rw [E.toD] at hR
    cases hR with
    | str h => exact ⟨_, rfl, rfl, rfl, .inr ⟨c, rfl, rfl⟩⟩
  | maybe k => exact absurd hs (by rw [E.toD]; intro c; cases c)
  | many k => exact absurd hs (by rw [E.toD]; intro c; cases c)
  | join es => exact absurd hs (by rw [E.toD]; intro c; cases c)
  | alt es => exact absurd hs (by rw [E.toD]; intro c; cases c)
def spLet2 (n : Nat) : Sp := fun vs H Q _ => ∃ (v : V) (e : E), vs = [v] ∧ e.ok = true ∧ e.depth < n ∧ e.places ≤ 1000 ∧ Rep H v e.toD ∧ ∀ (z : Str) H', Same H H' → z.cps.toList = e.letters → z.length = e.places → Q (.str z) H'
theorem len_toL (z : Str) : z.cps.toList.length = z.length := Array.length_toList
section
variable {P : Program} {w : World} {K : PySem.W.Frag} {mg : Str → Option Value} {base : Heap} {a_BOUNDS a_LONG_BOUNDS : Addr} {tL tM : Tok}
abbrev N__law_letters : List Str := ["_law_expression", "_law_part"]
theorem sc__law_letters : FnScope ["_law_expression", "_law_part"] ["_law_expression"] (defScope s__law_letters) := ⟨rfl, rfl, rfl, by decide +kernel, rfl, by decide +kernel, by decide +kernel⟩
theorem ok_letters2_step {f : Addr} {fd : FuncData} (B : Bt K mg a_BOUNDS a_LONG_BOUNDS tL tM) (Dd : Df K mg "_law_letters" s__law_letters ["_law_expression"] f fd) (n : Nat)
    (G_law_letters : Cl P w K mg base n "_law_letters" ["_law_expression"] (spLet2 n)) : FnOk P w K mg base CX0 (n + 1) f fd ["_law_expression"] (spLet2 (n + 1)) := by
  refine Dd.F.ok sc__law_letters (fun vs H Q Ex h => ?_) (fun cdv A outer s H vs Q Ex hr h => ?_)
  · obtain ⟨v, e, rfl, _⟩ := h
    rfl
  obtain ⟨v, e, rfl, hok, hd, hpl, hR, q⟩ := h
  refine ⟨_, (pss_cons (ps_if (pt_val (pe_callB call_isi rfl B.b_isinstance boot_isinstance (pa_cons (pv 0) (pa_cons (pe_bltn (v := .ty "str") rfl B.b_str boot_str rfl) pa_nil)))) (pss_one (ps_ret (pv 0))) pss_nil)
    (pss_cons (ps_if (pt_cmpR op_in_seq (pe_ix (r := rIxT K) ix_tup (pv 0) pe_int (fun _ _ => rfl)) (pe_lst (pa_cons pe_str (pa_cons pe_str pa_nil))) rfl) (pss_one (ps_ret (pe_cl G_law_letters (hr.mono (by omega)) rfl (pa_cons (pe_ix (r := rIxT K) ix_tup (pv 0) pe_int (fun _ _ => rfl)) pa_nil)))) pss_nil)
    (pss_one (ps_ret (pe_join pe_str (pe_lc (own := [("_law_part", 1)]) (g := gName 1) (tt := tYes) rfl sc__law_letters.nd (pi_tup (pe_ix (r := rIxT K) ix_tup (pv 0) pe_int (fun _ _ => rfl))) (blkOk_by (N := N__law_letters) (sc := defScope s__law_letters) (by decide +kernel)) (fun _ _ _ _ _ => pg_name (i := 1) sc__law_letters.nd rfl (Or.inl rfl)) (fun _ _ _ _ _ => pts_nil) (fun _ _ _ _ _ => (pe_cl G_law_letters (hr.mono (by omega)) rfl (pa_cons (pv 1) pa_nil))))))))), ?_⟩
  obtain ⟨t, ht, k1, _⟩ := hR.ty (K := K)
  refine ⟨_, rfl, _, _, _, _, _, rfl, .ty _, ht, k1, _, rfl, ite2 (fun e1 => ?_) (fun e1 => ?_)⟩
  · obtain ⟨z, rfl, h1, h2, _⟩ := leaf2 hR e1
    exact ⟨_, rfl, q z H (Same.refl H) h1 h2⟩
  obtain ⟨w', p, x, rfl, hp, hw, hk⟩ := node2 hok hR e1
  refine ⟨_, rfl, p, _, 0, _, rfl, rfl, SqT.of hp, at_zero, (by show 2 ≤ sizeLine; decide), fun l hl => ⟨l, _, rfl, .inl (SqL.of upd_same), rfl, rfl, _, rfl, ?_⟩⟩
  have hp2 : (upd H l (.lst [V.str sMaybe, V.str sMany])) p = some (.tup [.str w', x]) := (same_upd hl) _ _ hp
  refine ite2 (fun e2 => ?_) (fun e2 => ?_)
  · obtain ⟨_, b, k, rfl, rfl, hx, hko, hkd⟩ := hk.resolve_right fun c => by
      have e3 : inV (V.str w') [V.str sMaybe, V.str sMany] = true := e2
      rw [c.1] at e3
      cases e3
    rw [wrap_places] at hpl
    refine ⟨_, rfl, p, _, 1, x, rfl, rfl, SqT.of hp2, at_one, x, k, rfl, hko, by omega, hpl, hx.pers (Pers.new hl), fun z H3 s3 h1 h2 => q z H3 ((same_upd hl).trans s3) ?_ ?_⟩
    · rw [wrap_letters]; exact h1
    · rw [wrap_places]; exact h2
  · obtain ⟨_, b, es, p2, xs, rfl, rfl, rfl, h4, h5, hX, hks⟩ := hk.resolve_left fun c => e2 c.1
    rw [row_places] at hpl
    have hl2 := hX.len
    rw [List.length_map] at hl2
    have hX1 : Two (Rep (upd H l (.lst [V.str sMaybe, V.str sMany]))) xs (es.map E.toD) := Rep.pers2 (Pers.new hl) hX
    have h41 := (same_upd (o := .lst [V.str sMaybe, V.str sMany]) hl) _ _ h4
    refine ⟨⟨_, rfl⟩, _, rfl, p, _, 1, _, rfl, rfl, SqT.of hp2, at_one, p2, rfl, ⟨_, SqT.of h41⟩, fun L hL => ?_⟩
    refine lc_tup (K := K) (a := p2) (xs := xs) (fun i H2 => Same (upd H l (.lst [V.str sMaybe, V.str sMany])) H2 ∧ ∃ zs : List Str, (zs.map fun z => z.cps.toList).flatten = E.letters.letterss (es.take i) ∧ zs.length = i ∧ H2 L = some (.lst (zs.map V.str))) ⟨same_upd hL, [], rfl, rfl, upd_same⟩ (fun i H2 _ h => SqT.of (h.1 _ _ h41)) (fun i x H2 hx h => ?_) (fun H2 h => ?_)
    · obtain ⟨h0, zs, hzs, hzl, h2⟩ := h
      obtain ⟨d, hd1, hxd⟩ := hX1.get hx
      rw [List.getElem?_map] at hd1
      obtain ⟨k, hk, rfl⟩ := Option.map_eq_some_iff.mp hd1
      have hmem := List.mem_of_getElem? hk
      have hkp : k.places ≤ E.places.placess es := by
        have := placess_take es (i + 1)
        rw [take_snoc hk, placess_snoc] at this
        omega
      have hix : i < xs.length := (List.getElem?_eq_some_iff.mp hx).1
      obtain ⟨hk1, hk2⟩ := hks k hmem
      refine ⟨rfl, tyes ⟨_, rfl, x, k, rfl, hk1, by omega, by omega, hxd.pers (Pers.same h0), fun z H3 s3 hz3 hz4 => ⟨_, s3 _ _ h2, ?_, ?_, zs ++ [z], ?_, ?_, ?_⟩⟩⟩
      · rw [List.length_map]
        exact Nat.lt_of_le_of_lt (m := 100000) (by omega) (by decide)
      · exact fun b o e => by rw [upd_ne (ne_of_none e hL)]; exact s3 _ _ (h0 b o e)
      · rw [take_snoc hk, letterss_snoc, List.map_append, List.flatten_append, hzs, ← hz3]
        simp
      · rw [List.length_append, hzl]
        rfl
      · rw [upd_same, List.map_append]
        rfl
    · obtain ⟨h0, zs, hzs, hzl, h2⟩ := h
      rw [hl2, List.take_length] at hzs
      have hlen : (Txt.join sNo zs).cps.toList = E.letters.letterss es := by rw [join_flat2, hzs]
      have hsz : (zs.map Str.length).sum = E.places.placess es := by
        rw [← letterss_len, ← hzs, List.length_flatten, List.map_map]
        congr 1
      refine ⟨sNo, L, zs, rfl, rfl, .inl (SqL.of h2), ?_, q _ H2 ((same_upd hl).trans h0) ?_ ?_⟩
      · rw [hsz, lE]
        exact Nat.le_trans (m := 1000) (by omega) (by decide)
      · rw [row_letters]; exact hlen
      · rw [row_places, ← letterss_len, ← hlen, len_toL]
end
end My
namespace My
open PySem PySem.Spec PyProof.Rows L2
/-! ### made expressions -/
/-- the parts that a made expression has at most -/
def mP (pl dp : Nat) : Nat := if pl = 1 then (if dp = 0 then 1 else 2) else 2 + dp * pl
theorem mP_le {s dp : Nat} (hs : 1 ≤ s) : mP s dp ≤ (dp + 1) * s := by
  unfold mP
  split
  · rename_i h
    subst h
    split <;> omega
  · rw [Nat.add_mul]
    omega
theorem mP_two {s dp : Nat} (h : dp = 0 → s = 1) : mP s dp ≤ 2 + dp * s := by
  unfold mP
  split
  · split <;> omega
  · exact Nat.le_refl _
structure MadeE (e : E) (pl dp : Nat) (outer : Option Bool) : Prop where
  ok : e.ok = true
  ples : e.places = pl
  dep : e.depth ≤ dp
  pt : e.parts ≤ mP pl dp
  hd : rowOf e = none ∨ rowOf e ≠ outer
/-- the letters that were written down -/
def LtU (uV : V) (k : Nat) (ls : List Nat) (pl : Nat) : Prop := uV ≠ .non → ls = (List.range pl).map fun i => 97 + (k + i)
theorem ltU_app {uV : V} {k m n : Nat} {xs ys : List Nat} (h1 : LtU uV k xs m) (h2 : LtU uV (k + m) ys n) : LtU uV k (xs ++ ys) (m + n) := fun hu => by
  rw [h1 hu, h2 hu, List.range_add, List.map_append, List.map_map]
  congr 1
  refine List.map_congr_left fun i _ => ?_
  show 97 + (k + m + i) = 97 + (k + (m + i))
  omega
def spMade (n : Nat) : Sp := fun vs H Q _ => ∃ (a : Addr) (z : Str) (pl dp : Nat) (outer : Option Bool) (uV : V) (k : Nat), vs = [.ref a, .str z, .int pl, .int dp, .str (outS outer), uV] ∧ Strm H a ∧ Lets z ∧ 1 ≤ pl ∧ pl ≤ 8 ∧ dp < n ∧ (dp = 0 → pl = 1) ∧ UsedAt H a uV k ∧ (uV ≠ .non → k + pl ≤ 4) ∧
  ∀ v H' e, GoU a uV H H' → Rep H' v e.toD → MadeE e pl dp outer → UsedAt H' a uV (k + pl) → LtU uV k e.letters pl → Q v H'
theorem made_sym {c dp : Nat} {outer : Option Bool} (h : 97 ≤ c ∧ c ≤ 100) : MadeE (.sym c) 1 dp outer where
  ok := by
    rw [E.ok, decide_eq_true h.1, decide_eq_true h.2]
    rfl
  ples := rfl
  dep := Nat.zero_le _
  pt := by
    show 1 ≤ mP 1 dp
    unfold mP
    rw [if_pos rfl]
    split <;> decide
  hd := .inl rfl
theorem made_wrap1 {c dp : Nat} {outer : Option Bool} (b : Bool) (h : 97 ≤ c ∧ c ≤ 100) (hd : 0 < dp) : MadeE (wrapE b (.sym c)) 1 dp outer where
  ok := by
    rw [wrap_ok, E.ok, decide_eq_true h.1, decide_eq_true h.2]
    rfl
  ples := by rw [wrap_places]; rfl
  dep := by
    rw [wrap_depth]
    show 0 + 1 ≤ dp
    omega
  pt := by
    rw [wrap_parts]
    show 1 + 1 ≤ mP 1 dp
    unfold mP
    rw [if_pos rfl, if_neg (by omega)]
    exact Nat.le_refl _
  hd := .inl (by cases b <;> rfl)
theorem made_wrap {e : E} {pl dp : Nat} {o outer : Option Bool} (b : Bool) (h : MadeE e pl dp o) (h2 : 2 ≤ pl) : MadeE (wrapE b e) pl (dp + 1) outer where
  ok := by rw [wrap_ok]; exact h.ok
  ples := by rw [wrap_places]; exact h.ples
  dep := by rw [wrap_depth]; exact Nat.succ_le_succ h.dep
  pt := by
    rw [wrap_parts]
    have := h.pt
    unfold mP at this ⊢
    rw [if_neg (by omega)] at this ⊢
    rw [Nat.add_mul]
    omega
  hd := .inl (by cases b <;> rfl)
theorem made_row {es : List E} {pl dp : Nat} {outer : Option Bool} (wb : Bool) (ho : some wb ≠ outer) (h2 : 2 ≤ es.length) (hp2 : 2 ≤ pl) (hok : ∀ e ∈ es, e.ok = true ∧ e.depth ≤ dp ∧ (rowOf e = none ∨ rowOf e ≠ some wb)) (hpl : (es.map E.places).sum = pl) (hpt : (es.map E.parts).sum ≤ (dp + 1) * pl + 1) : MadeE (rowE (!wb) es) pl (dp + 1) outer where
  ok := by
    have h2 : decide (2 ≤ es.length) = true := decide_eq_true h2
    have hk : es.all E.ok = true := List.all_eq_true.mpr fun e he => (hok e he).1
    cases wb with
    | false =>
      have : es.any isJoin = false := any_no fun e he => by
        have := (hok e he).2.2
        cases e <;> first | rfl | exact absurd (this.resolve_left (by intro c; cases c)) (fun c => c rfl)
      show E.ok (.join es) = true
      rw [E.ok, oks_eq, h2, hk, this]
      rfl
    | true =>
      have : es.any isAlt = false := any_no fun e he => by
        have := (hok e he).2.2
        cases e <;> first | rfl | exact absurd (this.resolve_left (by intro c; cases c)) (fun c => c rfl)
      show E.ok (.alt es) = true
      rw [E.ok, oks_eq, h2, hk, this]
      rfl
  ples := by rw [row_places, placess_eq]; exact hpl
  dep := by
    rw [row_depth]
    exact Nat.succ_le_succ (depths_le fun e he => (hok e he).2.1)
  pt := by
    rw [row_parts]
    unfold mP
    rw [if_neg (by omega)]
    omega
  hd := .inr (by cases wb <;> exact ho)
section
variable {P : Program} {w : World} {K : PySem.W.Frag} {mg : Str → Option Value} {base : Heap} {a_BOUNDS a_LONG_BOUNDS : Addr} {tL tM : Tok}
abbrev N__law_made : List Str := ["_law_stream_here", "_law_letters_here", "_law_places", "_law_deep", "_law_outer", "_law_used", "_law_letter", "_law_word_here", "_law_parts", "_law_left", "_law_turn", "_law_size"]
theorem sc__law_made : FnScope ["_law_stream_here", "_law_letters_here", "_law_places", "_law_deep", "_law_outer", "_law_used", "_law_letter", "_law_word_here", "_law_parts", "_law_left", "_law_turn", "_law_size"] ["_law_stream_here", "_law_letters_here", "_law_places", "_law_deep", "_law_outer", "_law_used"] (defScope s__law_made) := ⟨rfl, rfl, rfl, by decide +kernel, rfl, by decide +kernel, by decide +kernel⟩
set_option maxHeartbeats 1000000 in
theorem made_step {f : Addr} {fd : FuncData} (B : Bt K mg a_BOUNDS a_LONG_BOUNDS tL tM) (Dd : Df K mg "_law_made" s__law_made ["_law_stream_here", "_law_letters_here", "_law_places", "_law_deep", "_law_outer", "_law_used"] f fd) (G_law_next : Cl P w K mg base 1 "_law_next" ["_law_stream_here", "_law_many"] spNext) (n : Nat)
    (G_law_made : Cl P w K mg base (n + 2) "_law_made" ["_law_stream_here", "_law_letters_here", "_law_places", "_law_deep", "_law_outer", "_law_used"] (spMade n)) : FnOk P w K mg base CX0 (n + 3) f fd ["_law_stream_here", "_law_letters_here", "_law_places", "_law_deep", "_law_outer", "_law_used"] (spMade (n + 1)) := by
  refine Dd.F.ok sc__law_made (fun vs H Q Ex h => ?_) (fun cdv A outer s H vs Q Ex hr h => ?_)
  · obtain ⟨a, z, pl, dp, o, uV, k0, rfl, _⟩ := h
    rfl
  obtain ⟨a, z, pl, dp, ou, uV, k0, rfl, hS, hz, hp1, hp8, hdn, hd0, hU, hk4, q⟩ := h
  refine ⟨_, (pss_cons (ps_if (pt_cmpR op_eq (pv 2) pe_int (nomark _)) (pss_cons (ps_set (i := 6) sc__law_made.nd rfl (Or.inl rfl) (pe_ix ix_str (pv 1) (pe_cl G_law_next (hr.mono (by omega)) rfl (pa_cons (pv 0) (pa_cons (pe_callB (r := rLenOf K) call_lenK rfl B.b_len boot_len (pa_cons (pv 1) pa_nil)) pa_nil))) (fun _ _ => rfl)))
    (C8.pss_cut (ps_if (pt_cmpR op_notN (pv 5) pe_non (nomark _)) (pss_cons (ps_set (i := 6) sc__law_made.nd rfl (Or.inl rfl) (pe_ix ix_str pe_str (pe_callB (r := rLenOf K) call_lenK rfl B.b_len boot_len (pa_cons (pv 5) pa_nil)) (fun _ _ => rfl)))
    (pss_one (ps_expr (pe_bm PySem.F.plainAttrs_list PySem.F.slot_list_append PySem.F.type_list_append mt_append (pv 5) (pa_cons (pv 6) pa_nil))))) pss_nil)
    (pss_cons (ps_if (PW.pt (pw_and (pt_cmpR op_gt (pv 3) pe_int (nomark _)) (pw_and1 (pt_cmpR op_eq (pe_cl G_law_next (hr.mono (by omega)) rfl (pa_cons (pv 0) (pa_cons pe_int pa_nil))) pe_int (nomark _))))) (pss_one (ps_ret (pe_tup (pa_cons (pe_ix (r := rIxL K) ix_list (pe_lst (pa_cons pe_str (pa_cons pe_str pa_nil))) (pe_cl G_law_next (hr.mono (by omega)) rfl (pa_cons (pv 0) (pa_cons pe_int pa_nil))) (fun _ _ => rfl)) (pa_cons (pv 6) pa_nil))))) pss_nil)
    (pss_one (ps_ret (pv 6)))))) pss_nil)
    (C8.pss_cut (ps_if (PW.pt (pw_and (pt_cmpR op_gt (pv 3) pe_int (nomark _)) (pw_and1 (pt_cmpR op_eq (pe_cl G_law_next (hr.mono (by omega)) rfl (pa_cons (pv 0) (pa_cons pe_int pa_nil))) pe_int (nomark _))))) (pss_one (ps_ret (pe_tup (pa_cons (pe_ix (r := rIxL K) ix_list (pe_lst (pa_cons pe_str (pa_cons pe_str pa_nil))) (pe_cl G_law_next (hr.mono (by omega)) rfl (pa_cons (pv 0) (pa_cons pe_int pa_nil))) (fun _ _ => rfl)) (pa_cons (pe_cl G_law_made (hr.mono (by omega)) rfl (pa_cons (pv 0) (pa_cons (pv 1) (pa_cons (pv 2) (pa_cons (pe_op op_sub (pv 3) pe_int) (pa_cons pe_str (pa_cons (pv 5) pa_nil))))))) pa_nil))))) pss_nil)
    (pss_cons (ps_set (i := 7) sc__law_made.nd rfl (Or.inl rfl) (pe_ix (r := rIxL K) ix_list (pe_lst (pa_cons pe_str (pa_cons pe_str pa_nil))) (pe_cl G_law_next (hr.mono (by omega)) rfl (pa_cons (pv 0) (pa_cons pe_int pa_nil))) (fun _ _ => rfl)))
    (C8.pss_cut (ps_if (pt_cmpR op_eq (pv 7) (pv 4) (nomark _)) (pss_one (ps_set (i := 7) sc__law_made.nd rfl (Or.inl rfl) (pe_ix (r := rIxL K) ix_list (pe_lst (pa_cons pe_str (pa_cons pe_str pa_nil))) (pe_callTy call_int1 rfl B.b_int boot_int (pa_cons (pe_cmpR op_eq (pv 4) pe_str (nomark _)) pa_nil)) (fun _ _ => rfl)))) pss_nil)
    (pss_cons (ps_set (i := 8) sc__law_made.nd rfl (Or.inl rfl) (pe_lst pa_nil))
    (pss_cons (ps_set (i := 9) sc__law_made.nd rfl (Or.inl rfl) (pv 2))
    (pss_cons (ps_for PassesOwn.never rfl (pi_range1 rfl B.b_range (pa_cons (pv 2) pa_nil)) (pg_name (i := 10) sc__law_made.nd rfl (Or.inl rfl)) (pss_one (ps_if (pt_cmpR op_gt (pv 9) pe_int (nomark _)) (pss_cons (ps_set (i := 11) sc__law_made.nd rfl (Or.inl rfl) (pe_op op_add pe_int (pe_cl G_law_next (hr.mono (by omega)) rfl (pa_cons (pv 0) (pa_cons (pe_op op_sub (pv 9) (pe_callTy call_int1 rfl B.b_int boot_int (pa_cons (pe_cmpR op_eq (pv 10) pe_int (nomark _)) pa_nil))) pa_nil)))))
    (C8.pss_cut (ps_if (pt_cmpR op_eq (pv 3) pe_int (nomark _)) (pss_one (ps_set (i := 11) sc__law_made.nd rfl (Or.inl rfl) pe_int)) pss_nil)
    (pss_cons (ps_expr (pe_bm PySem.F.plainAttrs_list PySem.F.slot_list_append PySem.F.type_list_append mt_append (pv 8) (pa_cons (pe_cl G_law_made (hr.mono (by omega)) rfl (pa_cons (pv 0) (pa_cons (pv 1) (pa_cons (pv 11) (pa_cons (pe_op op_sub (pv 3) pe_int) (pa_cons (pv 7) (pa_cons (pv 5) pa_nil))))))) pa_nil)))
    (pss_one (ps_set (i := 9) sc__law_made.nd rfl (Or.inl rfl) (pe_op op_sub (pv 9) (pv 11))))))) pss_nil)))
    (C8.pss_cut (ps_if (PW.pt (pw_and (pt_cmpR op_eq (pv 7) pe_str (nomark _)) (pw_and1 (pt_cmpR op_eq (pe_cl G_law_next (hr.mono (by omega)) rfl (pa_cons (pv 0) (pa_cons pe_int pa_nil))) pe_int (nomark _))))) (pss_one (ps_expr (pe_bm PySem.F.plainAttrs_list PySem.F.slot_list_append PySem.F.type_list_append mt_append (pv 8) (pa_cons pe_str pa_nil)))) pss_nil)
    (pss_one (ps_ret (pe_tup (pa_cons (pv 7) (pa_cons (pe_callTy call_tuple_of rfl B.b_tuple boot_tuple (pa_cons (pv 8) pa_nil)) pa_nil))))))))))))), ?_⟩
  refine ⟨_, rfl, rfl, _, rfl, ite2 (fun c1 => ?_) (fun c1 => ?_)⟩
  · obtain rfl : pl = 1 := by
      have := V.int.inj (of_decide_eq_true c1)
      omega
    refine ⟨_, rfl, _, rfl, _, rfl, _, z.length, rfl, ⟨Nat.le_trans hz.2.1 (by decide), rfl⟩, a, z.length, rfl, hS, by have := hz.1; omega, by have := hz.2.1; omega, fun d H3 d0 d1 g3 => ?_⟩
    obtain ⟨c, hcz⟩ : ∃ c, z.cps.toList[d.toNat]? = some c := ⟨_, List.getElem?_eq_getElem (by rw [len_toList2]; omega)⟩
    have hcl := hz.2.2 c (List.mem_of_getElem? hcz)
    refine ⟨z, d, c, rfl, rfl, Nat.le_trans hz.2.1 (by decide), ?_, ?_⟩
    · have e1 : d = ((d.toNat : Nat) : Int) := by omega
      rw [e1]
      exact atI_nat hcz
    refine ⟨fun σ' H' => ∃ c : Nat, σ' = [some (.ref a), some (.str z), some (.int ((1 : Nat) : Int)), some (.int (dp : Nat)), some (.str (outS ou)), some uV, some (.str ⟨#[c]⟩), none, none, none, none, none] ∧ 97 ≤ c ∧ c ≤ 100 ∧ GoU a uV H H' ∧ UsedAt H' a uV (k0 + 1) ∧ LtU uV k0 [c] 1, ?_, ?_⟩
    · have hU3 := hU.go g3
      rcases hU3.ex with rfl | ⟨U, rfl, u1, u2, u3⟩
      · exact ⟨_, rfl, rfl, _, rfl, iteF ⟨c, rfl, hcl.1, hcl.2, g3.toU, ⟨.inl rfl⟩, fun h => absurd rfl h⟩⟩
      · have hk := hk4 (fun h => by cases h)
        obtain ⟨gu, hu⟩ := UsedAt.put g3.st hU3
        have hul : ((List.range k0).map fun i => V.str ⟨#[97 + i]⟩).length = k0 := by rw [List.length_map, List.length_range]
        have hat : atI (Str.ofString "abcd").cps.toList ((k0 : Nat) : Int) = some (97 + k0) := by
          have : k0 = 0 ∨ k0 = 1 ∨ k0 = 2 ∨ k0 = 3 := by omega
          rcases this with rfl | rfl | rfl | rfl <;> decide +kernel
        refine ⟨_, rfl, rfl, _, rfl, iteT ?_⟩
        refine ⟨_, rfl, _, k0, rfl, .inl ⟨_, SqL.of u3, by rw [List.length_map, List.length_range]⟩, Str.ofString "abcd", (k0 : Int), 97 + k0, rfl, rfl, by decide, hat, ?_⟩
        refine ⟨_, rfl, .inl ⟨rfl, _, SqL.of u3⟩, _, rfl, U, _, _, rfl, rfl, u3, by rw [hul]; exact Nat.lt_of_le_of_lt (m := 4) (by omega) (by decide), ?_⟩
        have el : ((List.range k0).map fun i => V.str (⟨#[97 + i]⟩ : Str)) ++ [V.str ⟨#[97 + k0]⟩] = (List.range (k0 + 1)).map fun i => V.str ⟨#[97 + i]⟩ := by
          rw [List.range_succ, List.map_append]
          rfl
        rw [el]
        exact ⟨97 + k0, rfl, by omega, by omega, g3.toU.trans gu, hu, fun _ => rfl⟩
    rintro σ' H3' ⟨c, rfl, hc1, hc2, g3', hU3', hl3⟩
    have hcl : 97 ≤ c ∧ c ≤ 100 := ⟨hc1, hc2⟩
    refine ⟨_, rfl, _, _, rfl, rfl, _, rfl, ite2 (fun c2 => ?_) (fun c2 => ?_)⟩
    · have hdp : 0 < dp := by
        have : (0 : Int) < (dp : Int) := of_decide_eq_true c2
        omega
      refine ⟨_, rfl, a, 3, rfl, g3'.st, by decide, by decide, fun d4 H4 _ _ g4 => ⟨rfl, _, rfl, ite2 (fun c3 => ?_) (fun c3 => ?_)⟩⟩
      · refine ⟨by show 2 ≤ sizeLine; decide, fun J hJ => ?_⟩
        have g5 := Go.new (o := .lst [V.str sMaybe, .str sMany]) g4.st hJ
        have hJa : J ≠ a := (g4.st.ne hJ).symm
        refine ⟨_, rfl, a, 2, rfl, g5.st, by decide, by decide, fun d6 H6 d60 d61 g6 => ?_⟩
        obtain ⟨b, hb⟩ : ∃ b, atI [V.str sMaybe, V.str sMany] d6 = some (.str (wrapW b)) := by
          have : d6 = 0 ∨ d6 = 1 := by omega
          rcases this with rfl | rfl
          · exact ⟨false, at_zero⟩
          · exact ⟨true, at_one⟩
        refine ⟨J, _, d6, _, rfl, rfl, SqL.of (g6.keep _ _ upd_same hJa), hb, _, rfl, by show 2 ≤ sizeLine; decide, fun p hp => ?_⟩
        have gg := g4.trans ((g5.trans g6).trans (Go.new (o := .tup [.str (wrapW b), .str ⟨#[c]⟩]) g6.st hp))
        exact q _ _ (wrapE b (.sym c)) (g3'.trans gg.toU) (wrap_rep upd_same (rep_sym c)) (made_wrap1 b hcl hdp) (hU3'.go gg) (by rw [wrap_letters]; exact hl3)
      · exact ⟨_, rfl, q _ _ (.sym c) (g3'.trans g4.toU) (rep_sym c) (made_sym hcl) (hU3'.go g4) hl3⟩
    · exact iteF ⟨_, rfl, q _ _ (.sym c) g3' (rep_sym c) (made_sym hcl) hU3' hl3⟩
  have hp2 : 2 ≤ pl := by
    have : ¬ (pl : Int) = 1 := fun h => c1 (decide_eq_true (congrArg V.int h))
    omega
  obtain ⟨m, rfl⟩ : ∃ m, dp = m + 1 := ⟨dp - 1, by
    have : dp ≠ 0 := fun h => by have := hd0 h; omega
    omega⟩
  have em : ((m + 1 : Nat) : Int) - 1 = (m : Int) := by omega
  clear c1
  refine ⟨fun σ' H' => σ' = [some (.ref a), some (.str z), some (.int (pl : Nat)), some (.int ((m + 1 : Nat) : Int)), some (.str (outS ou)), some uV, none, none, none, none, none, none] ∧ Go a H H', ?_, ?_⟩
  · refine ⟨_, rfl, _, _, rfl, rfl, _, rfl, ite2 (fun c2 => ?_) (fun _ => iteF ⟨rfl, Go.refl hS⟩)⟩
    have hm1 : 1 ≤ m := by
      have : (1 : Int) < ((m + 1 : Nat) : Int) := of_decide_eq_true c2
      omega
    refine ⟨_, rfl, a, 4, rfl, hS, by decide, by decide, fun d4 H4 _ _ g4 => ⟨rfl, _, rfl, ite2 (fun c3 => ?_) (fun c3 => ⟨rfl, g4⟩)⟩⟩
    refine ⟨by show 2 ≤ sizeLine; decide, fun J hJ => ?_⟩
    have g5 := Go.new (o := .lst [V.str sMaybe, .str sMany]) g4.st hJ
    have hJa : J ≠ a := (g4.st.ne hJ).symm
    refine ⟨_, rfl, a, 2, rfl, g5.st, by decide, by decide, fun d6 H6 d60 d61 g6 => ?_⟩
    obtain ⟨b, hb⟩ : ∃ b, atI [V.str sMaybe, V.str sMany] d6 = some (.str (wrapW b)) := by
      have : d6 = 0 ∨ d6 = 1 := by omega
      rcases this with rfl | rfl
      · exact ⟨false, at_zero⟩
      · exact ⟨true, at_one⟩
    refine ⟨J, _, d6, _, rfl, rfl, SqL.of (g6.keep _ _ upd_same hJa), hb, _, rfl, _, rfl, _, rfl, _, rfl, _, _, rfl, rfl, _, rfl, a, z, pl, m, none, uV, k0, congrArg (fun i => [V.ref a, V.str z, V.int pl, V.int i, V.str sNo, uV]) em, g6.st, hz, hp1, hp8, by omega, by omega, hU.go (g4.trans (g5.trans g6)), hk4, fun v' H7 e' g7 r7 d7 u7 l7 => ⟨by show 2 ≤ sizeLine; decide, fun p hp => ?_⟩⟩
    exact q _ _ (wrapE b e') ((g4.trans (g5.trans g6)).toU.trans (g7.new hp)) (wrap_rep upd_same (r7.pers (Pers.new hp))) (made_wrap b d7 hp2) (u7.same g7.st (same_upd hp)) (by rw [wrap_letters]; exact l7)
  rintro σ' H1 ⟨rfl, g1⟩
  refine ⟨by show 2 ≤ sizeLine; decide, fun J hJ => ?_⟩
  have g2 := Go.new (o := .lst [V.str sJoin, .str sOr]) g1.st hJ
  have hJa : J ≠ a := (g1.st.ne hJ).symm
  refine ⟨_, rfl, a, 2, rfl, g2.st, by decide, by decide, fun d3 H3 d30 d31 g3 => ?_⟩
  obtain ⟨wb, hwb⟩ : ∃ wb, atI [V.str sJoin, V.str sOr] d3 = some (.str (outS (some wb))) := by
    have : d3 = 0 ∨ d3 = 1 := by omega
    rcases this with rfl | rfl
    · exact ⟨false, at_zero⟩
    · exact ⟨true, at_one⟩
  refine ⟨J, _, d3, _, rfl, rfl, SqL.of (g3.keep _ _ upd_same hJa), hwb, ?_⟩
  have G3 := g1.trans (g2.trans g3)
  refine ⟨fun σ' H' => ∃ wb : Bool, some wb ≠ ou ∧ σ' = [some (.ref a), some (.str z), some (.int (pl : Nat)), some (.int ((m + 1 : Nat) : Int)), some (.str (outS ou)), some uV, none, some (.str (outS (some wb))), none, none, none, none] ∧ Go a H H', ?_, ?_⟩
  · refine ⟨_, rfl, _, rfl, rfl, _, rfl, ite2 (fun e5 => ?_) (fun e5 => ?_)⟩
    · have e6 := outS_inj (vstr e5)
      subst e6
      refine ⟨by show 2 ≤ sizeLine; decide, fun J2 hJ2 => ?_⟩
      have g4 := Go.new (o := .lst [V.str sJoin, .str sOr]) G3.st hJ2
      refine ⟨_, rfl, rfl, .inr ⟨_, rfl, ?_⟩⟩
      cases wb with
      | false => exact ⟨J2, _, 1, .str sOr, rfl, rfl, SqL.of upd_same, at_one, true, (fun c => by cases c), rfl, G3.trans g4⟩
      | true => exact ⟨J2, _, 0, .str sJoin, rfl, rfl, SqL.of upd_same, at_zero, false, (fun c => by cases c), rfl, G3.trans g4⟩
    · exact ⟨wb, fun c => vstrN e5 (congrArg outS c), rfl, G3⟩
  clear hwb G3 g3 g2 g1 hJa hJ wb
  rintro σ' H4 ⟨wb, hwo, rfl, G4⟩
  refine ⟨by show 0 ≤ sizeLine; decide, fun pa hpa => ?_⟩
  have hpaa : pa ≠ a := (G4.st.ne hpa).symm
  have nH : H pa = none := by
    cases c : H pa with
    | none => rfl
    | some o =>
      have := G4.keep _ _ c hpaa
      rw [hpa] at this
      cases this
  have G5 := (G4.trans (Go.new (o := .lst []) G4.st hpa)).toU (uV := uV)
  have U5 := hU.go (G4.trans (Go.new (o := .lst []) G4.st hpa))
  have hnU : uV ≠ .ref pa := fun e => by
    rcases hU.ex with z | ⟨U, z, _, _, z4⟩
    · rw [z] at e; cases e
    · rw [z] at e
      rw [V.ref.inj e, nH] at z4
      cases z4
  refine ⟨_, rfl, _, rfl, (pl : Int), rfl, by omega, by omega, for_range (lo := 0) (n := ((pl : Nat) : Int).toNat) (fun i σ' H' => ∃ (left : Nat) (xs : List V) (es : List E) (kk sh : Option V), σ' = [some (.ref a), some (.str z), some (.int (pl : Nat)), some (.int ((m + 1 : Nat) : Int)), some (.str (outS ou)), some uV, none, some (.str (outS (some wb))), some (.ref pa), some (.int (left : Nat)), kk, sh] ∧ GoU a uV H H' ∧ H' pa = some (.lst xs) ∧ UsedAt H' a uV (k0 + (es.map E.places).sum) ∧ LtU uV k0 (E.letters.letterss es) (es.map E.places).sum ∧ Two (Rep H') xs (es.map E.toD) ∧ es.length ≤ i ∧ left + (es.map E.places).sum = pl ∧ (left = 0 ∨ left + i ≤ pl) ∧ ((i = 0 ∧ es = []) ∨ (1 ≤ left ∧ 1 ≤ es.length) ∨ 2 ≤ es.length) ∧ (es.map E.parts).sum ≤ (m + 1) * (es.map E.places).sum ∧ ∀ e ∈ es, e.ok = true ∧ e.depth ≤ m ∧ (rowOf e = none ∨ rowOf e ≠ some wb)) ?_ ?_ ?_⟩
  · exact ⟨pl, [], [], none, none, rfl, G5, upd_same, U5, fun _ => rfl, .nil, Nat.le_refl _, rfl, .inr (Nat.le_refl _), .inl ⟨rfl, rfl⟩, Nat.zero_le _, fun e he => by cases he⟩
  · rintro i σ' H6 hi ⟨left, xs, es, kk, sh, rfl, G6, h6, u6, t6, hX, hle, hls, hlf, hln, hpt, hes⟩
    have hipl : i < pl := by omega
    refine ⟨_, rfl, _, _, rfl, rfl, _, rfl, ite2 (fun c5 => ?_) (fun c5 => ?_)⟩
    · have hl1 : 1 ≤ left := by
        have : (0 : Int) < (left : Int) := of_decide_eq_true c5
        omega
      obtain ⟨kb, hkb, hkz⟩ : ∃ kb : Bool, decide (V.int (0 + (i : Int)) = V.int 0) = kb ∧ (kb = true ↔ i = 0) := by
        refine ⟨_, rfl, ?_⟩
        rw [decide_eq_true_eq]
        exact ⟨fun h => by have := V.int.inj h; omega, fun h => congrArg V.int (by omega)⟩
      have hl2 : i = 0 → 2 ≤ left := fun h => by
        subst h
        have : es = [] := List.length_eq_zero_iff.mp (by omega)
        subst this
        have : left + 0 = pl := hls
        omega
      have hk01 : 0 < (left : Int) - (if kb = true then (1 : Int) else 0) := by
        split
        · have := hl2 (hkz.mp (by assumption))
          omega
        · omega
      refine ⟨_, rfl, _, rfl, _, rfl, rfl, .inr ⟨_, rfl, ?_⟩⟩
      rw [hkb]
      refine ⟨_, _, rfl, rfl, a, _, rfl, G6.st, hk01, by split <;> omega, fun d5 H7 d50 d51 g7 => ⟨_, _, rfl, rfl, ?_⟩⟩
      obtain ⟨sz, hsz⟩ : ∃ sz : Nat, 1 + d5 = (sz : Int) := ⟨(1 + d5).toNat, by omega⟩
      have hsz1 : 1 ≤ sz := by omega
      have hsz2 : sz ≤ left := by
        split at d51 <;> omega
      have hsz3 : i = 0 → sz + 1 ≤ left := fun h => by
        rw [if_pos (hkz.mpr h)] at d51
        omega
      refine ⟨fun σ' H' => ∃ sz : Nat, 1 ≤ sz ∧ sz ≤ left ∧ (i = 0 → sz + 1 ≤ left) ∧ (m = 0 → sz = 1) ∧ σ' = [some (.ref a), some (.str z), some (.int (pl : Nat)), some (.int ((m + 1 : Nat) : Int)), some (.str (outS ou)), some uV, none, some (.str (outS (some wb))), some (.ref pa), some (.int (left : Nat)), some (.int (0 + (i : Int))), some (.int (sz : Nat))] ∧ H' = H7, ?_, ?_⟩
      · refine ⟨_, rfl, rfl, _, rfl, ite2 (fun c6 => ?_) (fun c6 => ?_)⟩
        · exact ⟨1, Nat.le_refl _, hl1, fun h => by have := hl2 h; omega, fun _ => rfl, rfl, rfl⟩
        · refine ⟨sz, hsz1, hsz2, hsz3, fun h => absurd (decide_eq_true (congrArg V.int (by rw [h]; rfl))) c6, ?_, rfl⟩
          rw [← hsz]
          rfl
      clear hsz hsz1 hsz2 hsz3 sz d50 d51 d5 hk01
      rintro σ' H8 ⟨sz, hs1, hs2, hs3, hs0, rfl, rfl⟩
      have h7 := g7.keep _ _ h6 hpaa
      refine ⟨_, rfl, .inl ⟨rfl, _, SqL.of h7⟩, _, rfl, _, rfl, _, rfl, _, rfl, _, _, rfl, rfl, _, rfl, _, rfl, a, z, sz, m, some wb, uV, k0 + (es.map E.places).sum, congrArg (fun i => [V.ref a, V.str z, V.int sz, V.int i, V.str (outS (some wb)), uV]) em, g7.st, hz, hs1, by omega, by omega, hs0, u6.go g7, (fun h => by have := hk4 h; omega), fun v9 H9 e9 g9 r9 d9 u9 t9 => ?_⟩
      have h9 := g9.keep _ _ h7 hpaa hnU
      have hlx := hX.len
      rw [List.length_map] at hlx
      have P9 : Pers H6 (upd H9 pa (.lst (xs ++ [v9]))) := (g7.pers.trans g9.pers).trans (Pers.store h9)
      refine ⟨pa, xs, v9, rfl, rfl, h9, Nat.lt_of_le_of_lt (m := 100) (by omega) (by decide), ?_⟩
      refine ⟨_, rfl, _, rfl, _, _, rfl, rfl, left - sz, _, es ++ [e9], some (.int (0 + (i : Int))), some (.int (sz : Nat)), ?_, ?_, upd_same, ?_, ?_, ?_, ?_, ?_, ?_, ?_, ?_, ?_⟩
      · rw [show ((left - sz : Nat) : Int) = (left : Int) - (sz : Int) by omega]
        rfl
      · exact (G6.trans (g7.toU.trans g9)).loc nH
      · have hl : ∀ l c j ns, StrmW H9 a l c j ns → l ≠ pa := fun l c j ns w e => by
          have GG := G6.trans (g7.toU.trans g9)
          obtain ⟨l0, c0, k0', n0, w0⟩ := GG.st0
          obtain ⟨c1, k1, n1, w1⟩ := GG.mv _ _ _ _ w0
          rw [e] at w
          have := strmW_l w w1
          rw [← this] at w0
          have h0 := w0.2.1
          rw [nH] at h0
          cases h0
        have := u9.loc (o := .lst (xs ++ [v9])) g9.st hpaa hnU hl
        rw [List.map_append, List.sum_append]
        show UsedAt _ a uV (k0 + ((es.map E.places).sum + (e9.places + 0)))
        rw [d9.ples, Nat.add_zero, ← Nat.add_assoc]
        exact this
      · rw [letterss_snoc, List.map_append, List.sum_append]
        show LtU uV k0 _ ((es.map E.places).sum + (e9.places + 0))
        rw [d9.ples, Nat.add_zero]
        exact ltU_app t6 t9
      · rw [List.map_append]
        exact (Rep.pers2 P9 hX).app (.cons (r9.pers (Pers.store h9)) .nil)
      · rw [List.length_append]
        show es.length + 1 ≤ i + 1
        omega
      · rw [List.map_append, List.sum_append]
        have := d9.ples
        show left - sz + ((es.map E.places).sum + (e9.places + 0)) = pl
        omega
      · omega
      · rw [List.length_append]
        show _ ∨ (_ ∧ 1 ≤ es.length + 1) ∨ 2 ≤ es.length + 1
        by_cases hi0 : i = 0
        · have := hs3 hi0
          exact .inr (.inl ⟨by omega, by omega⟩)
        · rcases hln with ⟨h, _⟩ | ⟨_, h⟩ | h
          · exact absurd h hi0
          · exact .inr (.inr (by omega))
          · exact .inr (.inr (by omega))
      · rw [List.map_append, List.sum_append, List.map_append, List.sum_append, Nat.mul_add]
        have h1 := Nat.le_trans d9.pt (mP_le hs1)
        have h2 := d9.ples
        show (es.map E.parts).sum + (e9.parts + 0) ≤ _ + (m + 1) * (e9.places + 0)
        rw [h2]
        simp only [Nat.add_zero]
        omega
      · intro e he
        rcases List.mem_append.mp he with he | he
        · exact hes e he
        · rw [List.mem_singleton] at he
          subst he
          exact ⟨d9.ok, d9.dep, d9.hd⟩
    · have hl0 : left = 0 := by
        have : ¬ (0 : Int) < (left : Int) := fun h => c5 (decide_eq_true h)
        omega
      subst hl0
      refine ⟨0, xs, es, _, _, rfl, G6, h6, u6, t6, hX, by omega, hls, .inl rfl, ?_, hpt, hes⟩
      rcases hln with ⟨h, h2⟩ | ⟨h, _⟩ | h
      · subst h2
        have : 0 + 0 = pl := hls
        omega
      · omega
      · exact .inr (.inr h)
  rintro σ' H6 ⟨left, xs, es, kk, sh, rfl, G6, h6, u6, t6, hX, hle, hls, hlf, hln, hpt, hes⟩
  rw [Int.toNat_natCast] at hle hlf hln
  have hl0 : left = 0 := by omega
  subst hl0
  have h2 : 2 ≤ es.length := by
    rcases hln with ⟨h, _⟩ | ⟨h, _⟩ | h
    · omega
    · omega
    · exact h
  have hsum : (es.map E.places).sum = pl := by omega
  rw [hsum] at hpt u6 t6
  refine ⟨fun σ' H' => ∃ (xs : List V) (es : List E) (kk sh : Option V), σ' = [some (.ref a), some (.str z), some (.int (pl : Nat)), some (.int ((m + 1 : Nat) : Int)), some (.str (outS ou)), some uV, none, some (.str (outS (some wb))), some (.ref pa), some (.int ((0 : Nat) : Int)), kk, sh] ∧ GoU a uV H H' ∧ H' pa = some (.lst xs) ∧ UsedAt H' a uV (k0 + pl) ∧ LtU uV k0 (E.letters.letterss es) pl ∧ Two (Rep H') xs (es.map E.toD) ∧ es.length ≤ 20 ∧ 2 ≤ es.length ∧ (es.map E.places).sum = pl ∧ (es.map E.parts).sum ≤ (m + 1) * pl + 1 ∧ ∀ e ∈ es, e.ok = true ∧ e.depth ≤ m ∧ (rowOf e = none ∨ rowOf e ≠ some wb), ?_, ?_⟩
  · refine ⟨_, rfl, rfl, _, rfl, ite2 (fun c7 => ?_) (fun _ => iteF ⟨xs, es, _, _, rfl, G6, h6, u6, t6, hX, by omega, h2, hsum, by omega, hes⟩)⟩
    refine ⟨_, rfl, a, 5, rfl, G6.st, by decide, by decide, fun d7 H7 _ _ g7 => ⟨rfl, _, rfl, ite2 (fun c8 => ?_) (fun _ => ⟨xs, es, _, _, rfl, G6.trans g7.toU, g7.keep _ _ h6 hpaa, u6.go g7, t6, Rep.pers2 g7.pers hX, by omega, h2, hsum, by omega, hes⟩)⟩⟩
    have h7 := g7.keep _ _ h6 hpaa
    have hlx := hX.len
    rw [List.length_map] at hlx
    refine ⟨_, rfl, .inl ⟨rfl, _, SqL.of h7⟩, pa, xs, _, rfl, rfl, h7, Nat.lt_of_le_of_lt (m := 100) (by omega) (by decide), ?_⟩
    refine ⟨_, es ++ [.eps], _, _, rfl, (G6.trans g7.toU).loc nH, upd_same, ?_, ?_, ?_, ?_, ?_, ?_, ?_, ?_⟩
    · have hl : ∀ l c j ns, StrmW H7 a l c j ns → l ≠ pa := fun l c j ns w e => by
        have GG := G6.trans g7.toU
        obtain ⟨l0, c0, k0', n0, w0⟩ := GG.st0
        obtain ⟨c1, k1, n1, w1⟩ := GG.mv _ _ _ _ w0
        rw [e] at w
        have := strmW_l w w1
        rw [← this] at w0
        have h0 := w0.2.1
        rw [nH] at h0
        cases h0
      exact (u6.go g7).loc g7.st hpaa hnU hl
    · rw [letterss_snoc]
      show LtU uV k0 (_ ++ []) pl
      rw [List.append_nil]
      exact t6
    · rw [List.map_append]
      exact (Rep.pers2 (g7.pers.trans (Pers.store h7)) hX).app (.cons rep_eps .nil)
    · rw [List.length_append]
      show es.length + 1 ≤ 20
      omega
    · rw [List.length_append]
      show 2 ≤ es.length + 1
      omega
    · rw [List.map_append, List.sum_append]
      exact hsum
    · rw [List.map_append, List.sum_append]
      show _ + (1 + 0) ≤ _
      omega
    · intro e he
      rcases List.mem_append.mp he with he | he
      · exact hes e he
      · rw [List.mem_singleton] at he
        subst he
        exact ⟨rfl, Nat.zero_le _, .inl rfl⟩
  clear hX hle hls hlf hln hpt hes h2 hsum h6 u6 t6 G6 H6 xs es kk sh
  rintro σ' H6 ⟨xs, es, kk, sh, rfl, G6, h6, u6, t6, hX, h20, h2, hsum, hpt, hes⟩
  refine ⟨_, rfl, _, rfl, pa, xs, rfl, .inl ⟨SqL.of h6, fun l hl => ⟨by show 2 ≤ sizeLine; decide, fun p hp => ?_⟩⟩⟩
  have gl2 : Go a H6 (upd (upd H6 l (.tup xs)) p (.tup [.str (outS (some wb)), .ref l])) := (Go.new G6.st hl).trans (Go.new (G6.st.same (same_upd hl)) hp)
  have G := G6.trans gl2.toU
  have hln : l ≠ p := fun c => by
    rw [← c, upd_same] at hp
    cases hp
  have hlx := hX.len
  rw [List.length_map] at hlx
  have R : Rep (upd (upd H6 l (.tup xs)) p (.tup [.str (outS (some wb)), .ref l])) (.ref l) (.tup (es.map E.toD)) := Rep.tup2 (by rw [upd_ne hln]; exact upd_same) (by omega) (Rep.pers2 ((Pers.new hl).trans (Pers.new hp)) hX)
  refine q _ _ (rowE (!wb) es) G ?_ (made_row wb hwo h2 hp2 hes hsum hpt) (u6.go gl2) (by rw [row_letters]; exact t6)
  rw [rowE_toD]
  cases wb with
  | false => exact Rep.tup2 upd_same (by show 2 ≤ 100000; decide) (.cons (.str (by decide +kernel)) (.cons R .nil))
  | true => exact Rep.tup2 upd_same (by show 2 ≤ 100000; decide) (.cons (.str (by decide +kernel)) (.cons R .nil))
theorem all_made {f : Addr} {fd : FuncData} (B : Bt K mg a_BOUNDS a_LONG_BOUNDS tL tM) (Dd : Df K mg "_law_made" s__law_made ["_law_stream_here", "_law_letters_here", "_law_places", "_law_deep", "_law_outer", "_law_used"] f fd) (G1 : Cl P w K mg base 1 "_law_next" ["_law_stream_here", "_law_many"] spNext) :
    ∀ n, FnOk P w K mg base CX0 (n + 2) f fd ["_law_stream_here", "_law_letters_here", "_law_places", "_law_deep", "_law_outer", "_law_used"] (spMade n)
  | 0 => none_left fun vs H Q Ex h => by
    obtain ⟨a, z, pl, dp, ou, _, _, _, _, _, _, _, h1, _⟩ := h
    omega
  | n + 1 => made_step B Dd G1 n (Dd.cl (all_made B Dd G1 n))
theorem ok_made {f : Addr} {fd : FuncData} (B : Bt K mg a_BOUNDS a_LONG_BOUNDS tL tM) (Dd : Df K mg "_law_made" s__law_made ["_law_stream_here", "_law_letters_here", "_law_places", "_law_deep", "_law_outer", "_law_used"] f fd) (G_law_next : Cl P w K mg base 1 "_law_next" ["_law_stream_here", "_law_many"] spNext) : FnOk P w K mg base CX0 6 f fd ["_law_stream_here", "_law_letters_here", "_law_places", "_law_deep", "_law_outer", "_law_used"] (spMade 4) := all_made B Dd G_law_next 4
end
end My
namespace My
open PySem PySem.Spec PyProof.Rows L2
/-! ### tables -/
def PairsL (H : Hp) (vs : List V) (ij : List (Nat × Nat)) : Prop := Two (fun v x => ∃ q : Addr, v = V.ref q ∧ H q = some (.tup [.int ((x.1 : Nat) : Int), .int ((x.2 : Nat) : Int)])) vs ij
theorem PairsL.same {H H' : Hp} {vs : List V} {ij : List (Nat × Nat)} (s : Same H H') (h : PairsL H vs ij) : PairsL H' vs ij := h.mono fun v x ⟨q, e, h⟩ => ⟨q, e, s _ _ h⟩
theorem PairsL.upd {H : Hp} {vs : List V} {ij : List (Nat × Nat)} {L : Addr} {zs ys : List V} (hL : H L = some (.lst zs)) (h : PairsL H vs ij) : PairsL (upd H L (.lst ys)) vs ij := h.mono fun v x ⟨q, e, h⟩ => ⟨q, e, by rw [upd_ne fun c => by rw [c, hL] at h; cases h]; exact h⟩
structure PairsAt (H : Hp) (p : Addr) (ij : List (Nat × Nat)) : Prop where
  ex : ∃ vs : List V, H p = some (.lst vs) ∧ PairsL H vs ij
theorem PairsAt.same {H H' : Hp} {p : Addr} {ij : List (Nat × Nat)} (s : Same H H') (h : PairsAt H p ij) : PairsAt H' p ij := by
  obtain ⟨vs, h1, h2⟩ := h.ex
  exact ⟨vs, s _ _ h1, h2.same s⟩
theorem PairsL.push {H : Hp} {L q : Addr} {acc : List V} {ij : List (Nat × Nat)} {x : Nat × Nat} (h1 : H L = some (.lst acc)) (h2 : PairsL H acc ij) (hq : H q = some (.tup [.int ((x.1 : Nat) : Int), .int ((x.2 : Nat) : Int)])) : PairsAt (L2.upd H L (.lst (acc ++ [.ref q]))) L (ij ++ [x]) :=
  ⟨_, upd_same, Two.app (PairsL.upd h1 h2) (.cons ⟨q, rfl, by rw [upd_ne fun c => by rw [c, h1] at hq; cases hq]; exact hq⟩ .nil)⟩
theorem PairsL.cat {H : Hp} {p : Addr} {vs ws : List V} {ij kl : List (Nat × Nat)} (hp : H p = none) (h1 : PairsL H vs ij) (h2 : PairsL H ws kl) : PairsAt (L2.upd H p (.lst (vs ++ ws))) p (ij ++ kl) :=
  ⟨_, upd_same, Two.app (h1.same (same_upd hp)) (h2.same (same_upd hp))⟩
theorem natsV_get {xs : List Nat} {m : Nat} {y : V} (h : (natsV xs)[m]? = some y) : ∃ i, xs[m]? = some i ∧ y = .int (i : Int) := by
  unfold natsV at h
  rw [List.getElem?_map] at h
  obtain ⟨i, h1, rfl⟩ := Option.map_eq_some_iff.mp h
  exact ⟨i, h1, rfl⟩
theorem prodL_snoc {xs ys : List Nat} {m i : Nat} (h : xs[m]? = some i) : prodL (xs.take (m + 1)) ys = prodL (xs.take m) ys ++ ys.map fun j => (i, j) := by
  unfold prodL
  rw [take_snoc h, List.map_append, List.flatten_append]
  simp
def pd (x : Nat × Nat) : PyData := .tuple [.int ((x.1 : Nat) : Int), .int ((x.2 : Nat) : Int)]
theorem pd_dp {K : PySem.W.Frag} {H : Hp} {q : Addr} {x : Nat × Nat} (h : H q = some (.tup [.int ((x.1 : Nat) : Int), .int ((x.2 : Nat) : Int)])) : Dp K H (.ref q) (pd x) := .tup (SqT.of h) (.cons (.int _) (.cons (.int _) .nil))
theorem PairsL.dp {K : PySem.W.Frag} {H : Hp} {vs : List V} {ij : List (Nat × Nat)} (h : PairsL H vs ij) : DpAll K H vs (ij.map pd) := by
  induction h with
  | nil => exact .nil
  | cons h _ ih =>
    obtain ⟨q, rfl, hq⟩ := h
    exact .cons (pd_dp hq) ih
theorem PairsAt.dp {K : PySem.W.Frag} {H : Hp} {p : Addr} {ij : List (Nat × Nat)} (h : PairsAt H p ij) : Dp K H (.ref p) (.list (ij.map pd)) := by
  obtain ⟨vs, h1, h2⟩ := h.ex
  exact .lst (SqL.of h1) h2.dp
theorem pd_shaped (x : Nat × Nat) : SeqAt.shaped (pd x) = true := by
  unfold SeqAt.shaped pd
  simp [PyData.canLay0, PyData.canLayAll0, PyData.depth, PyData.depthAll]
theorem pds_lay : ∀ ij : List (Nat × Nat), PyData.canLayAll0 (ij.map pd) = true ∧ PyData.depthAll (ij.map pd) ≤ 1
  | [] => ⟨rfl, Nat.zero_le _⟩
  | x :: ij => by
    obtain ⟨h1, h2⟩ := pds_lay ij
    rw [List.map_cons, PyData.canLayAll0, PyData.depthAll, h1]
    refine ⟨?_, Nat.max_le.mpr ⟨?_, h2⟩⟩
    · unfold pd
      simp [PyData.canLay0, PyData.canLayAll0]
    · unfold pd
      simp [PyData.depth, PyData.depthAll]
theorem pds_shaped (ij : List (Nat × Nat)) : SeqAt.shaped (.list (ij.map pd)) = true := by
  obtain ⟨h1, h2⟩ := pds_lay ij
  unfold SeqAt.shaped
  rw [PyData.canLay0, PyData.depth, h1, decide_eq_true (by omega)]
  rfl
theorem pd_eqv (x y : Nat × Nat) : PyData.eqv (pd y) (pd x) = decide (x = y) := by
  obtain ⟨a, b⟩ := x
  obtain ⟨c, d⟩ := y
  unfold pd
  simp only [PyData.eqv, PyData.eqvAll, Bool.and_true]
  rw [Bool.eq_iff_iff]
  simp only [Bool.and_eq_true, beq_iff_eq, decide_eq_true_eq, Prod.mk.injEq]
  omega
theorem pd_any (x : Nat × Nat) (ij : List (Nat × Nat)) : ((ij.map pd).any fun z => PyData.eqv z (pd x)) = decide (x ∈ ij) := by
  induction ij with
  | nil => rfl
  | cons y ij ih =>
    rw [List.map_cons, List.any_cons, ih, pd_eqv, ← Bool.decide_or]
    exact decide_eq_decide.mpr List.mem_cons.symm
theorem rg_leaf0 (o : Nat) : rgV (o : Int) ((o : Int) + ((0 : Nat) : Int)) = [] := by
  simp [rgV]
theorem rg_leaf1 (o : Nat) : rgV (o : Int) ((o : Int) + ((1 : Nat) : Int)) = [V.int (o : Int)] := by
  have e : ((o : Int) + ((1 : Nat) : Int) - (o : Int)).toNat = 1 := by omega
  simp [rgV, e]
def gR (b : Bool) (es : List E) (o : Nat) : Gl := if b then gl.glJ es o else gl.glA es o
theorem gl_row (b : Bool) (es : List E) (o : Nat) : gl (rowE b es) o = gR b es o := by
  cases b
  · show gl (.alt es) o = gl.glA es o
    rw [gl]
  · show gl (.join es) o = gl.glJ es o
    rw [gl]
def gStep (b : Bool) (x y : Gl) : Gl := if b then x.seq y else x.par y
theorem gR_snoc (b : Bool) (es : List E) (e : E) (o : Nat) : Eqv (gR b (es ++ [e]) o) (gStep b (gR b es o) (gl e (o + E.places.placess es))) := by
  cases b
  · show Eqv (gl.glA (es ++ [e]) o) ((gl.glA es o).par (gl e (o + E.places.placess es)))
    rw [glA_snoc, ← placess_eq]
    exact Eqv.refl _
  · show Eqv (gl.glJ (es ++ [e]) o) ((gl.glJ es o).seq (gl e (o + E.places.placess es)))
    rw [placess_eq]
    exact glJ_snoc es e o
theorem gR_len (b : Bool) (es : List E) (o : Nat) : Short (gR b es o) (E.places.placess es) := by
  cases b
  · exact glA_len es o
  · exact glJ_len es o
theorem sq_bound {W a b x y z : Nat} (h1 : x ≤ (W + 1) * (a * a)) (h2 : y ≤ (W + 1) * (b * b)) (h3 : z ≤ a * b) : x + y + z ≤ (W + 1) * ((a + b) * (a + b)) := by
  have e : (W + 1) * ((a + b) * (a + b)) = (W + 1) * (a * a) + (W + 1) * (a * b) + ((W + 1) * (b * a) + (W + 1) * (b * b)) := by
    rw [Nat.add_mul a b, Nat.mul_add a, Nat.mul_add b, Nat.mul_add, Nat.mul_add, Nat.mul_add]
  have h4 : a * b ≤ (W + 1) * (a * b) := Nat.le_mul_of_pos_left _ (Nat.succ_pos _)
  rw [e]
  omega
theorem row_wr (b : Bool) (es : List E) : (rowE b es).wr = E.wr.wrs es := by
  cases b
  · show E.wr (.alt es) = _
    rw [E.wr]
  · show E.wr (.join es) = _
    rw [E.wr]
theorem wrs_mem {k : E} : ∀ {es : List E}, k ∈ es → k.wr ≤ E.wr.wrs es
  | e :: es, h => by
    rw [E.wr.wrs]
    rcases List.mem_cons.mp h with rfl | h
    · omega
    · have := wrs_mem h
      omega
theorem app_toL (a b : Str) : (a ++ b).cps.toList = a.cps.toList ++ b.cps.toList := by
  show (a.cps ++ b.cps).toList = _
  exact Array.toList_append
theorem prodL_len (xs ys : List Nat) : (prodL xs ys).length = xs.length * ys.length := by
  unfold prodL
  induction xs with
  | nil => simp
  | cons x xs ih => rw [List.map_cons, List.flatten_cons, List.length_append, ih, List.length_map, List.length_cons, Nat.succ_mul, Nat.add_comm]
/-- a table: whether empty, first, last places, pairs -/
structure TabG (H : Hp) (t : Addr) (g : Gl) (N : Nat) (Nw : Addr → Prop) : Prop where
  ex : ∃ (f l p : Addr) (ij : List (Nat × Nat)), H t = some (.tup [.bl g.nul, .ref f, .ref l, .ref p]) ∧ H f = some (.lst (natsV g.fst)) ∧ H l = some (.lst (natsV g.lst)) ∧ PairsAt H p ij ∧ (∀ x, x ∈ ij ↔ x ∈ g.fol) ∧ ij.length ≤ N ∧ Nw f ∧ Nw l ∧ Nw p
theorem TabG.same {H H' : Hp} {t : Addr} {g : Gl} {N : Nat} {Nw : Addr → Prop} (s : Same H H') (h : TabG H t g N Nw) : TabG H' t g N Nw := by
  obtain ⟨f, l, p, ij, h1, h2, h3, h4, h5, h6⟩ := h.ex
  exact ⟨f, l, p, ij, s _ _ h1, s _ _ h2, s _ _ h3, h4.same s, h5, h6⟩
theorem TabG.upd {H : Hp} {t : Addr} {g : Gl} {N : Nat} {Nw : Addr → Prop} {R : Addr} {zs ys : List V} (hR : H R = some (.lst zs)) (hn : ¬ Nw R) (h : TabG H t g N Nw) : TabG (upd H R (.lst ys)) t g N Nw := by
  obtain ⟨f, l, p, ij, h1, h2, h3, h4, h5, h6, h7, h8, h9⟩ := h.ex
  obtain ⟨vs, v1, v2⟩ := h4.ex
  have nr : ∀ {b : Addr}, Nw b → b ≠ R := fun hb e => hn (e ▸ hb)
  exact ⟨f, l, p, ij, by rw [upd_ne (ne_of h1 hR (by intro z; cases z))]; exact h1, by rw [upd_ne (nr h7)]; exact h2, by rw [upd_ne (nr h8)]; exact h3, ⟨vs, by rw [upd_ne (nr h9)]; exact v1, PairsL.upd hR v2⟩, h5, h6, h7, h8, h9⟩
theorem TabG.eqv {H : Hp} {t : Addr} {g g' : Gl} {N N' : Nat} {Nw Nv : Addr → Prop} (k : Eqv g' g) (hN : N ≤ N') (hv : ∀ b, Nw b → Nv b) (h : TabG H t g N Nw) : TabG H t g' N' Nv := by
  obtain ⟨f, l, p, ij, h1, h2, h3, h4, h5, h6, h7, h8, h9⟩ := h.ex
  exact ⟨f, l, p, ij, by rw [k.nul]; exact h1, by rw [k.fst]; exact h2, by rw [k.lst]; exact h3, h4, fun x => (h5 x).trans (k.fol x).symm, by omega, hv _ h7, hv _ h8, hv _ h9⟩
theorem gR_one (b : Bool) (k : E) (o : Nat) : Eqv (gR b [k] o) (gl k o) := by
  have h := gR_snoc b [] k o
  refine h.trans ?_
  cases b
  · show Eqv (Gl.non.par (gl k (o + 0))) (gl k o)
    exact Eqv.refl _
  · show Eqv (Gl.one.seq (gl k (o + 0))) (gl k o)
    exact one_seq _
theorem row_two {b : Bool} {es : List E} (h : (rowE b es).ok = true) : 2 ≤ es.length := by
  cases b
  · have h : E.ok (.alt es) = true := h
    rw [E.ok, Bool.and_eq_true, Bool.and_eq_true, decide_eq_true_eq] at h
    exact h.1.1
  · have h : E.ok (.join es) = true := h
    rw [E.ok, Bool.and_eq_true, Bool.and_eq_true, decide_eq_true_eq] at h
    exact h.1.1
theorem sum_takeN (es : List E) (i : Nat) : ((es.take i).map E.parts).sum ≤ (es.map E.parts).sum := by
  rw [List.map_take]
  exact sum_take_leN _ _
def spJoined : Sp := fun vs H Q _ => ∃ (t u : Addr) (g h : Gl) (M N : Nat) (Nw : Addr → Prop), vs = [.ref t, .ref u] ∧ TabG H t g M Nw ∧ TabG H u h N Nw ∧ (∀ b, H b = none → Nw b) ∧ g.fst.length ≤ 8 ∧ g.lst.length ≤ 8 ∧ h.fst.length ≤ 8 ∧ h.lst.length ≤ 8 ∧ M ≤ 10000 ∧ N ≤ 10000 ∧
  ∀ r H', Same H H' → TabG H' r (g.seq h) (M + N + 64) Nw → Q (.ref r) H'
def spTables (n : Nat) : Sp := fun vs H Q _ => ∃ (v : V) (e : E) (o : Nat), vs = [v, .int o] ∧ e.ok = true ∧ e.depth < n ∧ e.depth < 13 ∧ e.places ≤ 8 ∧ e.parts ≤ 50 ∧ o + e.places ≤ 1000 ∧ Rep H v e.toD ∧
  ∀ (t : Addr) H', Same H H' → TabG H' t (gl e o) (128 * e.parts - 64) (fun b => H b = none) → Q (.ref t) H'
section
variable {P : Program} {w : World} {K : PySem.W.Frag} {mg : Str → Option Value} {base : Heap} {a_BOUNDS a_LONG_BOUNDS : Addr} {tL tM : Tok}
abbrev N__law_joined : List Str := ["_law_one", "_law_other", "_law_empty", "_law_first", "_law_last", "_law_pairs", "_law_empty_two", "_law_first_two", "_law_last_two", "_law_pairs_two", "_law_between", "_law_place", "_law_later"]
theorem sc__law_joined : FnScope ["_law_one", "_law_other", "_law_empty", "_law_first", "_law_last", "_law_pairs", "_law_empty_two", "_law_first_two", "_law_last_two", "_law_pairs_two", "_law_between", "_law_place", "_law_later"] ["_law_one", "_law_other"] (defScope s__law_joined) := ⟨rfl, rfl, rfl, by decide +kernel, rfl, by decide +kernel, by decide +kernel⟩
theorem ok_joined {f : Addr} {fd : FuncData} (B : Bt K mg a_BOUNDS a_LONG_BOUNDS tL tM) (Dd : Df K mg "_law_joined" s__law_joined ["_law_one", "_law_other"] f fd) : FnOk P w K mg base CX0 1 f fd ["_law_one", "_law_other"] spJoined := by
  refine Dd.F.ok sc__law_joined (fun vs H Q Ex h => ?_) (fun cdv A outer s H vs Q Ex hr h => ?_)
  · obtain ⟨t, u, g, h, M, N, Nw, rfl, _⟩ := h
    rfl
  obtain ⟨t, u, g, h, M, N, Nw, rfl, hT, hU, hNw, hg1, hg2, hh1, hh2, hM, hN, q⟩ := h
  refine ⟨_, (pss_cons (ps_asg (pv 0) (pg_tup rfl (pgs_cons (pg_name (i := 2) sc__law_joined.nd rfl (Or.inl rfl)) (pgs_cons (pg_name (i := 3) sc__law_joined.nd rfl (Or.inl rfl)) (pgs_cons (pg_name (i := 4) sc__law_joined.nd rfl (Or.inl rfl)) (pgs_cons (pg_name (i := 5) sc__law_joined.nd rfl (Or.inl rfl)) pgs_nil))))))
    (pss_cons (ps_asg (pv 1) (pg_tup rfl (pgs_cons (pg_name (i := 6) sc__law_joined.nd rfl (Or.inl rfl)) (pgs_cons (pg_name (i := 7) sc__law_joined.nd rfl (Or.inl rfl)) (pgs_cons (pg_name (i := 8) sc__law_joined.nd rfl (Or.inl rfl)) (pgs_cons (pg_name (i := 9) sc__law_joined.nd rfl (Or.inl rfl)) pgs_nil))))))
    (pss_cons (ps_set (i := 10) sc__law_joined.nd rfl (Or.inl rfl) (pe_lst pa_nil))
    (pss_cons (ps_for PassesOwn.never rfl (pi_list (pv 4)) (pg_name (i := 11) sc__law_joined.nd rfl (Or.inr rfl)) (pss_one (ps_set (i := 10) sc__law_joined.nd rfl (Or.inl rfl) (pe_op op_cat (pv 10) (pe_lc (own := [("_law_later", 12)]) (g := gName 12) (tt := tYes) rfl sc__law_joined.nd (pi_list (pv 7)) (blkOk_by (N := N__law_joined) (sc := defScope s__law_joined) (by decide +kernel)) (fun _ _ _ _ _ => pg_name (i := 12) sc__law_joined.nd rfl (Or.inl rfl)) (fun _ _ _ _ _ => pts_nil) (fun _ _ _ _ _ => (pe_tup (pa_cons (pv 11) (pa_cons (pv 12) pa_nil)))))))))
    (C8.pss_cut (ps_if (pt_truth (pv 2) (by intro _; rfl)) (pss_one (ps_set (i := 3) sc__law_joined.nd rfl (Or.inl rfl) (pe_op op_cat (pv 3) (pv 7)))) pss_nil)
    (C8.pss_cut (ps_if (pt_truth (pv 6) (by intro _; rfl)) (pss_one (ps_set (i := 8) sc__law_joined.nd rfl (Or.inl rfl) (pe_op op_cat (pv 4) (pv 8)))) pss_nil)
    (pss_one (ps_ret (pe_tup (pa_cons (pe_and (pv 2) (pe_one (pv 6))) (pa_cons (pv 3) (pa_cons (pv 8) (pa_cons (pe_op op_cat (pe_op op_cat (pv 5) (pv 9)) (pv 10)) pa_nil))))))))))))), ?_⟩
  obtain ⟨f1, l1, p1, ij1, a1, a2, a3, a4, a5, a6, a7, a8, a9⟩ := hT.ex
  obtain ⟨f2, l2, p2, ij2, b1, b2, b3, b4, b5, b6, b7, b8, b9⟩ := hU.ex
  refine ⟨_, rfl, t, _, rfl, SqT.of a1, rfl, _, _, rfl, _, _, rfl, _, _, rfl, _, _, rfl, rfl, ?_⟩
  refine ⟨_, rfl, u, _, rfl, SqT.of b1, rfl, _, _, rfl, _, _, rfl, _, _, rfl, _, _, rfl, rfl, ?_⟩
  refine ⟨by show 0 ≤ sizeLine; decide, fun r0 hr0 => ?_⟩
  have s0 := same_upd (o := .lst []) hr0
  refine ⟨_, rfl, l1, rfl, ⟨_, SqL.of (s0 _ _ a3)⟩, for_list (K := K) (a := l1) (xs := natsV g.lst) (fun i σ' H' => ∃ (r : Addr) (o11 : Option V), σ' = [some (.ref t), some (.ref u), some (.bl g.nul), some (.ref f1), some (.ref l1), some (.ref p1), some (.bl h.nul), some (.ref f2), some (.ref l2), some (.ref p2), some (.ref r), o11, none] ∧ Same H H' ∧ PairsAt H' r (prodL (g.lst.take i) h.fst)) ?_ ?_ ?_ ?_⟩
  · exact ⟨r0, none, rfl, s0, ⟨[], upd_same, .nil⟩⟩
  · rintro i σ' H' _ ⟨r, o11, rfl, s1, _⟩
    exact SqL.of (s1 _ _ a3)
  · rintro i v σ' H1 hv ⟨r, o11, rfl, s1, hP⟩
    obtain ⟨x, hx, rfl⟩ := natsV_get hv
    have hil := (List.getElem?_eq_some_iff.mp hx).1
    refine ⟨_, rfl, _, rfl, f2, rfl, ⟨_, SqL.of (s1 _ _ b2)⟩, fun L hL => ?_⟩
    refine lc_list (K := K) (a := f2) (xs := natsV h.fst) (fun k H2 => Same H1 H2 ∧ PairsAt H2 L ((h.fst.take k).map fun y => (x, y))) ⟨same_upd hL, ⟨[], upd_same, .nil⟩⟩ (fun k H2 _ h => SqL.of (h.1 _ _ (s1 _ _ b2))) (fun k u H2 hu h => ?_) (fun H2 hh => ?_)
    · obtain ⟨s2, hN⟩ := h
      obtain ⟨y, hy, rfl⟩ := natsV_get hu
      have hkl := (List.getElem?_eq_some_iff.mp hy).1
      refine ⟨rfl, tyes ⟨_, rfl, _, rfl, (by show 2 ≤ sizeLine; decide), fun q1 hq1 => ?_⟩⟩
      have s3 := same_upd (o := .tup [V.int (x : Int), V.int (y : Int)]) hq1
      obtain ⟨acc, c1, c2⟩ := (hN.same s3).ex
      have hal := c2.len
      rw [List.length_map, List.length_take] at hal
      refine ⟨acc, c1, Nat.lt_of_le_of_lt (m := 8) (by omega) (by decide), fun b' o' hb' => by rw [upd_ne (ne_of_none hb' hL)]; exact s3 _ _ (s2 _ _ hb'), ?_⟩
      rw [take_snoc hy, List.map_append]
      exact PairsL.push (x := (x, y)) c1 c2 upd_same
    · obtain ⟨s2, hN⟩ := hh
      rw [natsV_len, List.take_length] at hN
      obtain ⟨vs1, v1, v2⟩ := (hP.same s2).ex
      obtain ⟨vs2, v3, v4⟩ := hN.ex
      have e1 := v2.len
      have e2 := v4.len
      rw [prodL_len, List.length_take] at e1
      rw [List.length_map] at e2
      have h64 : vs1.length ≤ 64 := by rw [e1]; exact Nat.mul_le_mul (by omega : min i g.lst.length ≤ 8) hh1
      refine ⟨r, L, vs1, vs2, rfl, rfl, v1, v3, Nat.le_trans (m := 72) (by omega) (by decide), fun p3 hp3 => ?_⟩
      refine ⟨p3, _, rfl, (s1.trans s2).trans (same_upd hp3), ?_⟩
      rw [prodL_snoc hx]
      exact PairsL.cat hp3 v2 v4
  rintro σ' H1 ⟨r, o11, rfl, s1, hP⟩
  rw [natsV_len, List.take_length] at hP
  refine ⟨fun σ' H' => ∃ (fr : Addr), σ' = [some (.ref t), some (.ref u), some (.bl g.nul), some (.ref fr), some (.ref l1), some (.ref p1), some (.bl h.nul), some (.ref f2), some (.ref l2), some (.ref p2), some (.ref r), o11, none] ∧ Same H1 H' ∧ Nw fr ∧ H' fr = some (.lst (natsV (g.seq h).fst)), ?_, ?_⟩
  · refine ⟨_, rfl, g.nul, rfl, ite2 (fun c => ?_) (fun c => ?_)⟩
    · refine ⟨_, rfl, _, rfl, f1, f2, _, _, rfl, rfl, s1 _ _ a2, s1 _ _ b2, ?_, fun p hp => ⟨p, rfl, same_upd hp, hNw _ (s1.free hp), ?_⟩⟩
      · rw [natsV_len, natsV_len]
        exact Nat.le_trans (m := 16) (by omega) (by decide)
      · rw [upd_same, natsV_app]
        show _ = some (HO.lst (natsV (g.fst ++ (if g.nul = true then h.fst else []))))
        rw [if_pos c]
    · refine ⟨f1, rfl, Same.refl _, a7, ?_⟩
      rw [s1 _ _ a2]
      show _ = some (HO.lst (natsV (g.fst ++ (if g.nul = true then h.fst else []))))
      rw [if_neg c, List.append_nil]
  rintro σ' H2 ⟨fr, rfl, s2, nfr, hfr⟩
  have S2 := s1.trans s2
  refine ⟨fun σ' H' => ∃ (lr : Addr), σ' = [some (.ref t), some (.ref u), some (.bl g.nul), some (.ref fr), some (.ref l1), some (.ref p1), some (.bl h.nul), some (.ref f2), some (.ref lr), some (.ref p2), some (.ref r), o11, none] ∧ Same H2 H' ∧ Nw lr ∧ H' lr = some (.lst (natsV (g.seq h).lst)), ?_, ?_⟩
  · refine ⟨_, rfl, h.nul, rfl, ite2 (fun c => ?_) (fun c => ?_)⟩
    · refine ⟨_, rfl, _, rfl, l1, l2, _, _, rfl, rfl, S2 _ _ a3, S2 _ _ b3, ?_, fun p hp => ⟨p, rfl, same_upd hp, hNw _ (S2.free hp), ?_⟩⟩
      · rw [natsV_len, natsV_len]
        exact Nat.le_trans (m := 16) (by omega) (by decide)
      · rw [upd_same, natsV_app]
        show _ = some (HO.lst (natsV ((if h.nul = true then g.lst else []) ++ h.lst)))
        rw [if_pos c]
    · refine ⟨l2, rfl, Same.refl _, b8, ?_⟩
      rw [S2 _ _ b3]
      show _ = some (HO.lst (natsV ((if h.nul = true then g.lst else []) ++ h.lst)))
      rw [if_neg c, List.nil_append]
  rintro σ' H3 ⟨lr, rfl, s3, nlr, hlr⟩
  have S3 := S2.trans s3
  have hfr3 := s3 _ _ hfr
  have hP3 := (hP.same s2).same s3
  clear hfr hP
  obtain ⟨vs1, v1, v2⟩ := (a4.same S3).ex
  obtain ⟨vs2, v3, v4⟩ := (b4.same S3).ex
  have e1 := v2.len
  have e2 := v4.len
  have hpl : (prodL g.lst h.fst).length ≤ 64 := by rw [prodL_len]; exact Nat.mul_le_mul hg2 hh1
  have main : ∀ nb : Bool, nb = (g.nul && h.nul) → ∀ p3, H3 p3 = none → ∀ p4, upd H3 p3 (.lst (vs1 ++ vs2)) p4 = none → ∀ vs3, H3 r = some (.lst vs3) → PairsL H3 vs3 (prodL g.lst h.fst) → ∀ T, upd (upd H3 p3 (.lst (vs1 ++ vs2))) p4 (.lst (vs1 ++ vs2 ++ vs3)) T = none → Q (.ref T) (upd (upd (upd H3 p3 (.lst (vs1 ++ vs2))) p4 (.lst (vs1 ++ vs2 ++ vs3))) T (.tup [.bl nb, .ref fr, .ref lr, .ref p4])) := by
    rintro nb rfl p3 hp3 p4 hp4 vs3 _ w3 T hT
    have s4 := same_upd (o := .lst (vs1 ++ vs2)) hp3
    have s5 := same_upd (o := .lst (vs1 ++ vs2 ++ vs3)) hp4
    have s6 := same_upd (o := .tup [.bl (g.nul && h.nul), .ref fr, .ref lr, .ref p4]) hT
    have S6 := s4.trans (s5.trans s6)
    refine q T _ (S3.trans S6) ⟨fr, lr, p4, ij1 ++ ij2 ++ prodL g.lst h.fst, upd_same, S6 _ _ hfr3, S6 _ _ hlr, ?_, fun x => ?_, ?_, nfr, nlr, hNw _ ((S3.trans s4).free hp4)⟩
    · exact (PairsL.cat hp4 (Two.app (v2.same s4) (v4.same s4)) (w3.same s4)).same s6
    · show _ ↔ x ∈ g.fol ++ (prodL g.lst h.fst ++ h.fol)
      rw [List.mem_append, List.mem_append, List.mem_append, List.mem_append, a5, b5]
      constructor
      · rintro ((h | h) | h)
        · exact .inl h
        · exact .inr (.inr h)
        · exact .inr (.inl h)
      · rintro (h | h | h)
        · exact .inl (.inl h)
        · exact .inr h
        · exact .inl (.inr h)
    · rw [List.length_append, List.length_append]
      omega
  obtain ⟨vs3, w1, w2⟩ := hP3.ex
  have e3 := w2.len
  have tail : ∀ nb : Bool, nb = (g.nul && h.nul) → (tCons (tVar 3) (tCons (tVar 8) (tCons (tOp rCat (tOp rCat (tVar 5) (tVar 9)) (tVar 10)) tNil))) [some (.ref t), some (.ref u), some (.bl g.nul), some (.ref fr), some (.ref l1), some (.ref p1), some (.bl h.nul), some (.ref f2), some (.ref lr), some (.ref p2), some (.ref r), o11, none] H3 fun xs H' => (V.bl nb :: xs).length ≤ sizeLine ∧ ∀ p, H' p = none → Q (.ref p) (upd H' p (.tup (V.bl nb :: xs))) := by
    intro nb hnb
    refine ⟨_, rfl, _, rfl, _, rfl, _, rfl, p1, p2, vs1, vs2, rfl, rfl, v1, v3, Nat.le_trans (m := 20000) (by omega) (by decide), fun p3 hp3 => ?_⟩
    have s4 := same_upd (o := .lst (vs1 ++ vs2)) hp3
    refine ⟨_, rfl, p3, r, _, vs3, rfl, rfl, upd_same, s4 _ _ w1, Nat.le_trans (m := 20100) (by rw [List.length_append]; omega) (by decide), fun p4 hp4 => ⟨by show 4 ≤ sizeLine; decide, fun T hT => ?_⟩⟩
    exact main nb hnb p3 hp3 p4 hp4 vs3 w1 w2 T hT
  refine ⟨_, rfl, g.nul, rfl, ?_⟩
  by_cases c : g.nul = true
  · rw [if_pos c]
    refine ⟨_, rfl, ?_⟩
    exact tail h.nul (by rw [c]; rfl)
  · rw [if_neg c]
    exact tail false (by rw [Bool.eq_false_iff.mpr c]; rfl)
abbrev N__law_tables : List Str := ["_law_expression", "_law_start", "_law_places", "_law_empty", "_law_first", "_law_last", "_law_pairs", "_law_place", "_law_rows", "_law_part", "_law_found", "_law_row", "_law_later"]
theorem sc__law_tables : FnScope ["_law_expression", "_law_start", "_law_places", "_law_empty", "_law_first", "_law_last", "_law_pairs", "_law_place", "_law_rows", "_law_part", "_law_found", "_law_row", "_law_later"] ["_law_expression", "_law_start"] (defScope s__law_tables) := ⟨rfl, rfl, rfl, by decide +kernel, rfl, by decide +kernel, by decide +kernel⟩
set_option maxHeartbeats 1000000 in
theorem tables_step {f : Addr} {fd : FuncData} (B : Bt K mg a_BOUNDS a_LONG_BOUNDS tL tM) (Dd : Df K mg "_law_tables" s__law_tables ["_law_expression", "_law_start"] f fd) (G_law_joined : Cl P w K mg base 1 "_law_joined" ["_law_one", "_law_other"] spJoined) (G_law_letters : Cl P w K mg base 13 "_law_letters" ["_law_expression"] (spLet2 13)) (n : Nat)
    (G_law_tables : Cl P w K mg base (n + 14) "_law_tables" ["_law_expression", "_law_start"] (spTables n)) : FnOk P w K mg base CX0 (n + 15) f fd ["_law_expression", "_law_start"] (spTables (n + 1)) := by
  refine Dd.F.ok sc__law_tables (fun vs H Q Ex h => ?_) (fun cdv A outer s H vs Q Ex hr h => ?_)
  · obtain ⟨v, e, o, rfl, _⟩ := h
    rfl
  obtain ⟨v, e, o, rfl, hok, hd, hd13, hpl, hpt, ho, hR, q⟩ := h
  refine ⟨_, (pss_cons (ps_if (pt_val (pe_callB call_isi rfl B.b_isinstance boot_isinstance (pa_cons (pv 0) (pa_cons (pe_bltn (v := .ty "str") rfl B.b_str boot_str rfl) pa_nil)))) (pss_cons (ps_set (i := 2) sc__law_tables.nd rfl (Or.inl rfl) (pe_listRg rfl rfl B.b_list (prg_2 rfl B.b_range (pv 1) (pe_op op_add (pv 1) (pe_callB call_len rfl B.b_len boot_len (pa_cons (pv 0) pa_nil))))))
    (pss_one (ps_ret (pe_tup (pa_cons (pe_cmpR op_eq (pv 0) pe_str (nomark _)) (pa_cons (pv 2) (pa_cons (pv 2) (pa_cons (pe_lst pa_nil) pa_nil)))))))) pss_nil)
    (pss_cons (ps_if (pt_cmpR op_in_seq (pe_ix (r := rIxT K) ix_tup (pv 0) pe_int (fun _ _ => rfl)) (pe_lst (pa_cons pe_str (pa_cons pe_str pa_nil))) rfl) (pss_cons (ps_asg (pe_cl G_law_tables (hr.mono (by omega)) rfl (pa_cons (pe_ix (r := rIxT K) ix_tup (pv 0) pe_int (fun _ _ => rfl)) (pa_cons (pv 1) pa_nil))) (pg_tup rfl (pgs_cons (pg_name (i := 3) sc__law_tables.nd rfl (Or.inl rfl)) (pgs_cons (pg_name (i := 4) sc__law_tables.nd rfl (Or.inl rfl)) (pgs_cons (pg_name (i := 5) sc__law_tables.nd rfl (Or.inl rfl)) (pgs_cons (pg_name (i := 6) sc__law_tables.nd rfl (Or.inl rfl)) pgs_nil))))))
    (C8.pss_cut (ps_if (pt_cmpR op_eq (pe_ix (r := rIxT K) ix_tup (pv 0) pe_int (fun _ _ => rfl)) pe_str (nomark _)) (pss_one (ps_for PassesOwn.never rfl (pi_list (pv 5)) (pg_name (i := 7) sc__law_tables.nd rfl (Or.inr rfl)) (pss_one (ps_set (i := 6) sc__law_tables.nd rfl (Or.inl rfl) (pe_op op_cat (pv 6) (pe_lc (own := [("_law_later", 12)]) (g := gName 12) (tt := tYes) rfl sc__law_tables.nd (pi_list (pv 4)) (blkOk_by (N := N__law_tables) (sc := defScope s__law_tables) (by decide +kernel)) (fun _ _ _ _ _ => pg_name (i := 12) sc__law_tables.nd rfl (Or.inl rfl)) (fun _ _ _ _ _ => pts_nil) (fun _ _ _ _ _ => (pe_tup (pa_cons (pv 7) (pa_cons (pv 12) pa_nil)))))))))) pss_nil)
    (pss_one (ps_ret (pe_tup (pa_cons pe_bl (pa_cons (pv 4) (pa_cons (pv 5) (pa_cons (pv 6) pa_nil))))))))) pss_nil)
    (pss_cons (ps_set (i := 8) sc__law_tables.nd rfl (Or.inl rfl) (pe_lst pa_nil))
    (pss_cons (ps_for PassesOwn.never rfl (pi_tup (pe_ix (r := rIxT K) ix_tup (pv 0) pe_int (fun _ _ => rfl))) (pg_name (i := 9) sc__law_tables.nd rfl (Or.inl rfl)) (pss_cons (ps_expr (pe_bm PySem.F.plainAttrs_list PySem.F.slot_list_append PySem.F.type_list_append mt_append (pv 8) (pa_cons (pe_cl G_law_tables (hr.mono (by omega)) rfl (pa_cons (pv 9) (pa_cons (pv 1) pa_nil))) pa_nil)))
    (pss_one (ps_set (i := 1) sc__law_tables.nd rfl (Or.inl rfl) (pe_op op_add (pv 1) (pe_callB call_len rfl B.b_len boot_len (pa_cons (pe_cl G_law_letters (hr.mono (by omega)) rfl (pa_cons (pv 9) pa_nil)) pa_nil)))))))
    (pss_cons (ps_set (i := 10) sc__law_tables.nd rfl (Or.inl rfl) (pe_ix (r := rIxL K) ix_list (pv 8) pe_int (fun _ _ => rfl)))
    (pss_cons (ps_for PassesOwn.never rfl (pi_list (pe_slice sl_list (pv 8) (po_some pe_int) po_none)) (pg_name (i := 11) sc__law_tables.nd rfl (Or.inl rfl)) (pss_one (ps_if (pt_cmpR op_eq (pe_ix (r := rIxT K) ix_tup (pv 0) pe_int (fun _ _ => rfl)) pe_str (nomark _)) (pss_one (ps_set (i := 10) sc__law_tables.nd rfl (Or.inl rfl) (pe_cl G_law_joined (hr.mono (by omega)) rfl (pa_cons (pv 10) (pa_cons (pv 11) pa_nil))))) (pss_one (ps_set (i := 10) sc__law_tables.nd rfl (Or.inl rfl) (pe_tup (pa_cons (pe_or (pe_ix (r := rIxT K) ix_tup (pv 10) pe_int (fun _ _ => rfl)) (pe_one (pe_ix (r := rIxT K) ix_tup (pv 11) pe_int (fun _ _ => rfl)))) (pa_cons (pe_op op_cat (pe_ix (r := rIxT K) ix_tup (pv 10) pe_int (fun _ _ => rfl)) (pe_ix (r := rIxT K) ix_tup (pv 11) pe_int (fun _ _ => rfl))) (pa_cons (pe_op op_cat (pe_ix (r := rIxT K) ix_tup (pv 10) pe_int (fun _ _ => rfl)) (pe_ix (r := rIxT K) ix_tup (pv 11) pe_int (fun _ _ => rfl))) (pa_cons (pe_op op_cat (pe_ix (r := rIxT K) ix_tup (pv 10) pe_int (fun _ _ => rfl)) (pe_ix (r := rIxT K) ix_tup (pv 11) pe_int (fun _ _ => rfl))) pa_nil))))))))))
    (pss_one (ps_ret (pv 10))))))))), ?_⟩
  obtain ⟨ty, hty, k1, _⟩ := hR.ty (K := K)
  refine ⟨_, rfl, _, _, _, _, _, rfl, .ty _, hty, k1, _, rfl, ite2 (fun e1 => ?_) (fun e1 => ?_)⟩
  · obtain ⟨z, rfl, h1, h2, h3⟩ := leaf2 hR e1
    have hz1 : z.length ≤ 1 := by
      rcases h3 with ⟨rfl, _⟩ | ⟨c, rfl, _⟩
      · rw [lE]; omega
      · exact Nat.le_refl _
    refine ⟨_, rfl, _, rfl, _, rfl, _, z.length, rfl, ⟨Nat.le_trans hz1 (by decide), rfl⟩, _, _, rfl, rfl, _, _, rfl, rfl, ?_, fun pl hpN => ?_⟩
    · unfold RgOk
      omega
    have sA := (same_upd (o := .lst (rgV (o : Int) ((o : Int) + ((z.length : Nat) : Int)))) hpN)
    refine ⟨_, rfl, rfl, _, rfl, _, rfl, by show 0 ≤ sizeLine; decide, fun pr hpr => ⟨by show 4 ≤ sizeLine; decide, fun t2 ht2 => ?_⟩⟩
    have sB := same_upd (o := .lst []) hpr
    have sC := same_upd (o := .tup [.bl (decide (V.str z = V.str sNo)), .ref pl, .ref pl, .ref pr]) ht2
    have hpl2 := sC _ _ (sB _ _ (upd_same (H := H) (a := pl) (o := .lst (rgV (o : Int) ((o : Int) + ((z.length : Nat) : Int))))))
    have hnr : PairsAt (upd (upd (upd H pl (.lst (rgV (o : Int) ((o : Int) + ((z.length : Nat) : Int))))) pr (.lst [])) t2 (.tup [.bl (decide (V.str z = V.str sNo)), .ref pl, .ref pl, .ref pr])) pr [] := ⟨[], sC _ _ upd_same, .nil⟩
    rcases h3 with ⟨rfl, rfl⟩ | ⟨c, rfl, rfl⟩
    · have e0 : rgV (o : Int) ((o : Int) + ((sNo.length : Nat) : Int)) = [] := by
        rw [lE]
        exact rg_leaf0 o
      refine q t2 _ (sA.trans (sB.trans sC)) ⟨pl, pl, pr, [], ?_, hpl2.trans (by rw [e0]; rfl), hpl2.trans (by rw [e0]; rfl), hnr, fun x => Iff.rfl, Nat.zero_le _, hpN, hpN, sA.free hpr⟩
      rw [upd_same, decide_eq_true rfl]
      rfl
    · have e0 : rgV (o : Int) ((o : Int) + (((⟨#[c]⟩ : Str).length : Nat) : Int)) = [V.int (o : Int)] := rg_leaf1 o
      refine q t2 _ (sA.trans (sB.trans sC)) ⟨pl, pl, pr, [], ?_, hpl2.trans (by rw [e0]; rfl), hpl2.trans (by rw [e0]; rfl), hnr, fun x => Iff.rfl, Nat.zero_le _, hpN, hpN, sA.free hpr⟩
      rw [upd_same]
      have : decide (V.str (⟨#[c]⟩ : Str) = V.str sNo) = false := decide_eq_false fun h => by
        have := congrArg Str.length (V.str.inj h)
        rw [lE] at this
        cases this
      rw [this]
      rfl
  obtain ⟨w', p, x, rfl, hp, hw, hk⟩ := node2 hok hR e1
  refine ⟨_, rfl, p, _, 0, _, rfl, rfl, SqT.of hp, at_zero, (by show 2 ≤ sizeLine; decide), fun l hl => ⟨l, _, rfl, .inl (SqL.of upd_same), rfl, rfl, _, rfl, ?_⟩⟩
  have sl := same_upd (o := .lst [V.str sMaybe, V.str sMany]) hl
  have hp2 := sl _ _ hp
  refine ite2 (fun e2 => ?_) (fun e2 => ?_)
  · obtain ⟨_, b, k, rfl, rfl, hx, hko, hkd⟩ := hk.resolve_right fun c => by
      have e3 : inV (V.str w') [V.str sMaybe, V.str sMany] = true := e2
      rw [c.1] at e3
      cases e3
    rw [wrap_places] at hpl ho
    rw [wrap_parts] at hpt
    have hx1 := hx.pers (Pers.new (o := .lst [V.str sMaybe, V.str sMany]) hl)
    refine ⟨_, rfl, p, _, 1, x, rfl, rfl, SqT.of hp2, at_one, _, rfl, x, k, o, rfl, hko, by omega, by omega, hpl, by omega, ho, hx1, fun t2 H3 s3 hT => ?_⟩
    have hS := gl_len k o
    have hSf : (gl k o).fst.length ≤ k.places := hS.fst
    have hSl : (gl k o).lst.length ≤ k.places := hS.lst
    have kpos := parts_pos k
    obtain ⟨f2, l2, pr, ij, a1, a2, a3, a4, a5, a6, a7, a8, a9⟩ := hT.ex
    refine ⟨t2, _, rfl, SqT.of a1, rfl, _, _, rfl, _, _, rfl, _, _, rfl, _, _, rfl, rfl, ?_⟩
    refine ⟨fun σ' H' => ∃ (pr' : Addr) (ij' : List (Nat × Nat)) (o7 : Option V), σ' = [some (.ref p), some (.int (o : Nat)), none, some (.bl (gl k o).nul), some (.ref f2), some (.ref l2), some (.ref pr'), o7, none, none, none, none, none] ∧ Same H3 H' ∧ PairsAt H' pr' ij' ∧ (∀ x, x ∈ ij' ↔ x ∈ (gl (wrapE b k) o).fol) ∧ ij'.length ≤ 128 * (k.parts + 1) - 64 ∧ H pr' = none, ?_, ?_⟩
    · refine ⟨_, rfl, p, _, 0, _, rfl, rfl, SqT.of (s3 _ _ hp2), at_zero, rfl, _, rfl, ite2 (fun e3 => ?_) (fun e3 => ?_)⟩
      · have hb : b = true := by
          cases b
          · exact absurd (vstr e3) mn
          · rfl
        subst hb
        refine ⟨_, rfl, l2, rfl, ⟨_, SqL.of a3⟩, for_list (K := K) (a := l2) (xs := natsV (gl k o).lst) (fun i σ' H' => ∃ (r : Addr) (ij' : List (Nat × Nat)) (o7 : Option V), σ' = [some (.ref p), some (.int (o : Nat)), none, some (.bl (gl k o).nul), some (.ref f2), some (.ref l2), some (.ref r), o7, none, none, none, none, none] ∧ Same H3 H' ∧ PairsAt H' r ij' ∧ H r = none ∧ ij' = ij ++ prodL ((gl k o).lst.take i) (gl k o).fst) ?_ ?_ ?_ ?_⟩
        · exact ⟨pr, ij, none, rfl, Same.refl _, a4, sl.free a9, by rw [List.take_zero]; exact (List.append_nil _).symm⟩
        · rintro i σ' H' _ ⟨r, ij', o7, rfl, s4, _⟩
          exact SqL.of (s4 _ _ a3)
        · rintro i v σ' H4 hv ⟨r, ij', o7, rfl, s4, hP, nr, rfl⟩
          obtain ⟨y, hy, rfl⟩ := natsV_get hv
          have hil := (List.getElem?_eq_some_iff.mp hy).1
          refine ⟨_, rfl, _, rfl, f2, rfl, ⟨_, SqL.of (s4 _ _ a2)⟩, fun L hL => ?_⟩
          refine lc_list (K := K) (a := f2) (xs := natsV (gl k o).fst) (fun j H2 => Same H4 H2 ∧ PairsAt H2 L (((gl k o).fst.take j).map fun z => (y, z))) ⟨same_upd hL, ⟨[], upd_same, .nil⟩⟩ (fun j H2 _ h => SqL.of (h.1 _ _ (s4 _ _ a2))) (fun j u H2 hu h => ?_) (fun H2 hh => ?_)
          · obtain ⟨s5, hN⟩ := h
            obtain ⟨z, hz, rfl⟩ := natsV_get hu
            have hkl := (List.getElem?_eq_some_iff.mp hz).1
            refine ⟨rfl, tyes ⟨_, rfl, _, rfl, (by show 2 ≤ sizeLine; decide), fun q1 hq1 => ?_⟩⟩
            have s6 := same_upd (o := .tup [V.int (y : Int), V.int (z : Int)]) hq1
            obtain ⟨acc, c1, c2⟩ := (hN.same s6).ex
            have hal := c2.len
            rw [List.length_map, List.length_take] at hal
            refine ⟨acc, c1, Nat.lt_of_le_of_lt (m := 8) (by omega) (by decide), fun b' o' hb' => by rw [upd_ne (ne_of_none hb' hL)]; exact s6 _ _ (s5 _ _ hb'), ?_⟩
            rw [take_snoc hz, List.map_append]
            exact PairsL.push (x := (y, z)) c1 c2 upd_same
          · obtain ⟨s5, hN⟩ := hh
            rw [natsV_len, List.take_length] at hN
            obtain ⟨vs1, v1, v2⟩ := (hP.same s5).ex
            obtain ⟨vs2, v3, v4⟩ := hN.ex
            have e1 := v2.len
            have e2 := v4.len
            rw [List.length_append, prodL_len, List.length_take] at e1
            rw [List.length_map] at e2
            have h64 : min i (gl k o).lst.length * (gl k o).fst.length ≤ 64 := Nat.mul_le_mul (by omega : min i (gl k o).lst.length ≤ 8) (by omega : _ ≤ 8)
            refine ⟨r, L, vs1, vs2, rfl, rfl, v1, v3, Nat.le_trans (m := 20000) (by omega) (by decide), fun p3 hp3 => ?_⟩
            refine ⟨p3, _, _, rfl, (s4.trans s5).trans (same_upd hp3), PairsL.cat hp3 v2 v4, (((sl.trans s3).trans s4).trans s5).free hp3, ?_⟩
            rw [prodL_snoc hy, List.append_assoc]
        · rintro σ' H4 ⟨r, ij', o7, rfl, s4, hP, nr, rfl⟩
          rw [natsV_len, List.take_length] at hP
          refine ⟨r, _, _, rfl, s4, hP, fun x => ?_, ?_, nr⟩
          · show _ ↔ x ∈ (gl (.many k) o).fol
            rw [gl, List.mem_append, a5]
            exact List.mem_append.symm
          · have : (prodL (gl k o).lst (gl k o).fst).length ≤ 64 := by rw [prodL_len]; exact Nat.mul_le_mul (by omega : _ ≤ 8) (by omega : _ ≤ 8)
            rw [List.length_append]
            omega
      · have hb : b = false := by
          cases b
          · rfl
          · exact absurd rfl (vstrN e3)
        subst hb
        refine ⟨pr, ij, none, rfl, Same.refl _, a4, fun x => ?_, by omega, sl.free a9⟩
        rw [a5]
        show _ ↔ x ∈ (gl (.maybe k) o).fol
        rw [gl]
    rintro σ' H5 ⟨pr', ij', o7, rfl, s5, hP5, hm5, hl5, nr5⟩
    refine ⟨_, rfl, _, rfl, _, rfl, (by show 4 ≤ sizeLine; decide), fun t3 ht3 => ?_⟩
    have s6 := same_upd (o := .tup [.bl true, .ref f2, .ref l2, .ref pr']) ht3
    refine q t3 _ (((sl.trans s3).trans s5).trans s6) ⟨f2, l2, pr', ij', ?_, ?_, ?_, hP5.same s6, hm5, by rw [wrap_parts]; exact hl5, sl.free a7, sl.free a8, nr5⟩
    · rw [upd_same]
      cases b
      · show _ = some (HO.tup [.bl (gl (.maybe k) o).nul, .ref f2, .ref l2, .ref pr'])
        rw [gl]
      · show _ = some (HO.tup [.bl (gl (.many k) o).nul, .ref f2, .ref l2, .ref pr'])
        rw [gl]
    · rw [s6 _ _ (s5 _ _ a2)]
      cases b
      · show _ = some (HO.lst (natsV (gl (.maybe k) o).fst))
        rw [gl]
      · show _ = some (HO.lst (natsV (gl (.many k) o).fst))
        rw [gl]
    · rw [s6 _ _ (s5 _ _ a3)]
      cases b
      · show _ = some (HO.lst (natsV (gl (.maybe k) o).lst))
        rw [gl]
      · show _ = some (HO.lst (natsV (gl (.many k) o).lst))
        rw [gl]
  obtain ⟨_, b, es, p2, xs, rfl, rfl, rfl, h4, h5, hX, hks⟩ := hk.resolve_left fun c => e2 c.1
  rw [row_places] at hpl ho
  rw [row_parts] at hpt
  have hlx := hX.len
  rw [List.length_map] at hlx
  have hsp := sum_pred es
  have h41 := sl _ _ h4
  refine ⟨by show 0 ≤ sizeLine; decide, fun R hR0 => ?_⟩
  have sR := same_upd (o := .lst []) hR0
  have S1 := sl.trans sR
  refine ⟨_, rfl, p, _, 1, _, rfl, rfl, SqT.of (sR _ _ hp2), at_one, p2, rfl, ⟨_, SqT.of (sR _ _ h41)⟩, for_tup (K := K) (a := p2) (xs := xs) (fun i σ' H' => ∃ (ts : List V) (o9 : Option V), σ' = [some (.ref p), some (.int ((o + E.places.placess (es.take i) : Nat) : Int)), none, none, none, none, none, none, some (.ref R), o9, none, none, none] ∧ Same (upd H l (.lst [V.str sMaybe, V.str sMany])) H' ∧ H' R = some (.lst ts) ∧ ts.length = i ∧ ∀ j k, j < i → es[j]? = some k → ∃ t, ts[j]? = some (.ref t) ∧ TabG H' t (gl k (o + E.places.placess (es.take j))) (128 * k.parts - 64) (fun b => (upd H l (.lst [V.str sMaybe, V.str sMany])) b = none ∧ b ≠ R)) ?_ ?_ ?_ ?_⟩
  · exact ⟨[], none, rfl, sR, upd_same, rfl, fun j k hj => absurd hj (Nat.not_lt_zero _)⟩
  · rintro i σ' H' _ ⟨ts, o9, rfl, s1, _⟩
    exact SqT.of (s1 _ _ h41)
  · rintro i y σ' H2 hy ⟨ts, o9, rfl, s2, hts, htl, htj⟩
    obtain ⟨d, hd1, hxd⟩ := hX.get hy
    rw [List.getElem?_map] at hd1
    obtain ⟨k, hk', rfl⟩ := Option.map_eq_some_iff.mp hd1
    have hmem := List.mem_of_getElem? hk'
    obtain ⟨hk1, hk2⟩ := hks k hmem
    have hpi : E.places.placess (es.take (i + 1)) = E.places.placess (es.take i) + k.places := by rw [take_snoc hk', placess_snoc]
    have hpt2 := placess_take es (i + 1)
    have hpa : ((es.take (i + 1)).map E.parts).sum = ((es.take i).map E.parts).sum + k.parts := by rw [take_snoc hk', List.map_append, List.sum_append]; simp
    have hpb := sum_takeN es (i + 1)
    have hxk : Rep H2 y k.toD := hxd.pers (Pers.same (sl.trans s2))
    refine ⟨_, rfl, .inl ⟨rfl, _, SqL.of hts⟩, _, rfl, _, rfl, y, k, o + E.places.placess (es.take i), rfl, hk1, by omega, by omega, by omega, by omega, by omega, hxk, fun t H3 s3 hT => ?_⟩
    have hts3 := s3 _ _ hts
    have hix : i < es.length := (List.getElem?_eq_some_iff.mp hk').1
    refine ⟨R, ts, _, rfl, rfl, hts3, Nat.lt_of_le_of_lt (m := 100) (by omega) (by decide), ?_⟩
    have nR : (upd H l (.lst [V.str sMaybe, V.str sMany])) R = none := hR0
    have P4 : Pers H2 (upd H3 R (.lst (ts ++ [.ref t]))) := (Pers.same s3).trans (Pers.store hts3)
    have nwR : ¬ ((upd H l (.lst [V.str sMaybe, V.str sMany])) R = none ∧ R ≠ R) := fun h => h.2 rfl
    have hT3 : TabG H3 t (gl k (o + E.places.placess (es.take i))) (128 * k.parts - 64) (fun b => (upd H l (.lst [V.str sMaybe, V.str sMany])) b = none ∧ b ≠ R) := hT.eqv (Eqv.refl _) (Nat.le_refl _) fun b hb => ⟨s2.free hb, (ne_of_none hts hb).symm⟩
    have hT4 := hT3.upd (ys := ts ++ [.ref t]) hts3 nwR
    have hold : ∀ j k', j < i → es[j]? = some k' → ∃ t', ts[j]? = some (.ref t') ∧ TabG (upd H3 R (.lst (ts ++ [.ref t]))) t' (gl k' (o + E.places.placess (es.take j))) (128 * k'.parts - 64) (fun b => (upd H l (.lst [V.str sMaybe, V.str sMany])) b = none ∧ b ≠ R) := fun j k' hj hk => by
      obtain ⟨t', h1, h2⟩ := htj j k' hj hk
      exact ⟨t', h1, (h2.same s3).upd hts3 nwR⟩
    have s4 : Same (upd H l (.lst [V.str sMaybe, V.str sMany])) (upd H3 R (.lst (ts ++ [.ref t]))) := fun b o hb => by
      rw [upd_ne (ne_of_none hb nR)]
      exact s3 _ _ (s2 _ _ hb)
    have hR4 := upd_same (H := H3) (a := R) (o := .lst (ts ++ [.ref t]))
    have hxk4 := hxk.pers P4
    revert hT4 hold s4 hR4 hxk4
    generalize upd H3 R (.lst (ts ++ [.ref t])) = H4
    intro hT4 hold s4 hR4 hxk4
    refine ⟨_, rfl, _, rfl, y, k, rfl, hk1, by omega, by omega, hxk4, fun z H5 s5 hz1 hz2 => ⟨_, z.length, rfl, ⟨?_, rfl⟩, _, _, rfl, rfl, ?_⟩⟩
    · rw [hz2]
      exact Nat.le_trans (m := 8) (by omega) (by decide)
    refine ⟨ts ++ [.ref t], some y, ?_, s4.trans s5, s5 _ _ hR4, by rw [List.length_append, htl]; rfl, fun j k' hj hk => ?_⟩
    · rw [hpi, hz2, show ((o + (E.places.placess (es.take i) + k.places) : Nat) : Int) = ((o + E.places.placess (es.take i) : Nat) : Int) + ((k.places : Nat) : Int) by omega]
      rfl
    · by_cases hji : j < i
      · obtain ⟨t', h1, h2⟩ := hold j k' hji hk
        exact ⟨t', by rw [List.getElem?_append_left (by omega)]; exact h1, h2.same s5⟩
      · obtain rfl : j = i := by omega
        rw [hk'] at hk
        obtain rfl := Option.some.inj hk
        exact ⟨t, by rw [List.getElem?_append_right (by omega), htl, Nat.sub_self]; rfl, hT4.same s5⟩
  rintro σ' H2 ⟨ts, o9, rfl, s2, hts, htl, htj⟩
  rw [hlx] at htl htj
  have hlen2 : 2 ≤ es.length := row_two hok
  obtain ⟨k0, hk0⟩ : ∃ k, es[0]? = some k := ⟨_, List.getElem?_eq_getElem (by omega)⟩
  obtain ⟨t0, ht0, hT0⟩ := htj 0 k0 (by omega) hk0
  refine ⟨_, rfl, R, ts, 0, _, rfl, rfl, SqL.of hts, at_of (j := 0) rfl ht0, ?_⟩
  refine ⟨_, rfl, 1, rfl, R, ts, rfl, SqL.of hts, fun Z hZ => ?_⟩
  have ecut : cutV ts (some 1) none = ts.drop 1 := cut_loV ts 1
  rw [ecut]
  have sZ := same_upd (o := .lst (ts.drop 1)) hZ
  have SZ := sl.trans s2
  have hZ1 := upd_same (H := H2) (a := Z) (o := .lst (ts.drop 1))
  refine ⟨Z, rfl, ⟨_, SqL.of hZ1⟩, for_list (K := K) (a := Z) (xs := ts.drop 1) (fun j σ' H' => ∃ (tf : Addr) (o11 : Option V), σ' = [some (.ref p), some (.int ((o + E.places.placess (es.take xs.length) : Nat) : Int)), none, none, none, none, none, none, some (.ref R), o9, some (.ref tf), o11, none] ∧ Same H2 H' ∧ H' Z = some (.lst (ts.drop 1)) ∧ TabG H' tf (gR b (es.take (j + 1)) o) (128 * ((es.take (j + 1)).map E.parts).sum - 64) (fun b => H b = none)) ?_ ?_ ?_ ?_⟩
  · refine ⟨t0, none, rfl, sZ, hZ1, ?_⟩
    have e1 : es.take 1 = [k0] := by
      rw [show (1 : Nat) = 0 + 1 from rfl, take_snoc hk0, List.take_zero]
      rfl
    rw [e1]
    refine (hT0.same sZ).eqv ?_ ?_ (fun b hb => sl.free hb.1)
    · have := gR_one b k0 o
      exact this
    · show 128 * k0.parts - 64 ≤ 128 * (k0.parts + 0) - 64
      omega
  · rintro j σ' H' _ ⟨tf, o11, rfl, _, h, _⟩
    exact SqL.of h
  · rintro j y σ' H3 hy ⟨tf, o11, rfl, s3, hZ3, hTf⟩
    rw [List.getElem?_drop, Nat.add_comm] at hy
    have hjl := (List.getElem?_eq_some_iff.mp hy).1
    obtain ⟨k, hk'⟩ : ∃ k, es[j + 1]? = some k := ⟨_, List.getElem?_eq_getElem (by omega)⟩
    obtain ⟨t, ht, hTk⟩ := htj (j + 1) k (by omega) hk'
    rw [hy] at ht
    obtain rfl := Option.some.inj ht
    have hTk3 : TabG H3 t (gl k (o + E.places.placess (es.take (j + 1)))) (128 * k.parts - 64) (fun b => H b = none) := (hTk.same s3).eqv (Eqv.refl _) (Nat.le_refl _) fun b hb => sl.free hb.1
    have hev : Eqv (gR b (es.take (j + 1 + 1)) o) (gStep b (gR b (es.take (j + 1)) o) (gl k (o + E.places.placess (es.take (j + 1))))) := by
      rw [take_snoc hk']
      exact gR_snoc b _ k o
    have hSi := gR_len b (es.take (j + 1)) o
    have hSk := gl_len k (o + E.places.placess (es.take (j + 1)))
    have hpi : E.places.placess (es.take (j + 1 + 1)) = E.places.placess (es.take (j + 1)) + k.places := by rw [take_snoc hk', placess_snoc]
    have hpt2 := placess_take es (j + 1 + 1)
    have hpa : ((es.take (j + 1 + 1)).map E.parts).sum = ((es.take (j + 1)).map E.parts).sum + k.parts := by rw [take_snoc hk', List.map_append, List.sum_append]; simp
    have hpb := sum_takeN es (j + 1 + 1)
    have kpos := parts_pos k
    have ipos : 1 ≤ ((es.take (j + 1)).map E.parts).sum := by
      have h1 : es.take (j + 1) = k0 :: (es.drop 1).take j := by
        cases es with
        | nil => cases hk0
        | cons a es =>
          obtain rfl := Option.some.inj hk0
          rfl
      rw [h1, List.map_cons, List.sum_cons]
      have := parts_pos k0
      omega
    have b1 := hSi.fst
    have b2 := hSi.lst
    have b3 := hSk.fst
    have b4 := hSk.lst
    have S3 := SZ.trans s3
    refine ⟨_, rfl, p, _, 0, _, rfl, rfl, SqT.of (S3 _ _ hp), at_zero, rfl, _, rfl, ?_⟩
    cases b with
    | true =>
      refine ite2 (fun _ => ?_) (fun c => absurd (by decide +kernel) c)
      refine ⟨_, rfl, _, rfl, tf, t, _, _, _, _, _, rfl, hTf, hTk3, fun b hb => S3.free hb, by omega, by omega, by omega, by omega, by omega, by omega, fun r H4 s4 hT4 => ?_⟩
      exact ⟨r, _, rfl, s3.trans s4, s4 _ _ hZ3, hT4.eqv hev (by omega) fun b hb => hb⟩
    | false =>
      refine ite2 (fun c => absurd c (by decide +kernel)) (fun _ => ?_)
      obtain ⟨f1, l1, p1, ij1, c1, c2, c3, c4, c5, c6, c7, c8, c9⟩ := hTf.ex
      obtain ⟨f2, l2, p2', ij2, d1, d2, d3, d4, d5, d6, d7, d8, d9⟩ := hTk3.ex
      obtain ⟨vs1, v1, v2⟩ := c4.ex
      obtain ⟨vs2, v3, v4⟩ := d4.ex
      have e1 := v2.len
      have e2 := v4.len
      obtain ⟨σ3, hσ3⟩ : ∃ σ3 : L2.St, σ3 = [some (.ref p), some (.int ((o + E.places.placess (es.take xs.length) : Nat) : Int)), none, none, none, none, none, none, some (.ref R), o9, some (.ref tf), some (.ref t), none] := ⟨_, rfl⟩
      have hor : ∀ Qc : VK, Qc (.bl ((gR false (es.take (j + 1)) o).nul || (gl k (o + E.places.placess (es.take (j + 1)))).nul)) H3 → (tOrV (tOp (rIxT K) (tVar 10) (tC (V.int 0))) (tOp (rIxT K) (tVar 11) (tC (V.int 0)))) [some (.ref p), some (.int ((o + E.places.placess (es.take xs.length) : Nat) : Int)), none, none, none, none, none, none, some (.ref R), o9, some (.ref tf), some (.ref t), none] H3 Qc := by
        intro Qc hQ
        refine ⟨_, rfl, tf, _, 0, _, rfl, rfl, SqT.of c1, at_zero, _, rfl, ?_⟩
        cases hg : (gR false (es.take (j + 1)) o).nul with
        | true =>
          rw [hg] at hQ
          exact iteT hQ
        | false =>
          rw [hg] at hQ
          exact iteF ⟨_, rfl, t, _, 0, _, rfl, rfl, SqT.of d1, at_zero, hQ⟩
      refine hor _ ?_
      refine ⟨_, rfl, tf, _, 1, _, rfl, rfl, SqT.of c1, at_one, _, rfl, t, _, 1, _, rfl, rfl, SqT.of d1, at_one, f1, f2, _, _, rfl, rfl, c2, d2, by rw [natsV_len, natsV_len]; exact Nat.le_trans (m := 16) (by omega) (by decide), fun q1 hq1 => ?_⟩
      have u1 := same_upd (o := .lst (natsV (gR false (es.take (j + 1)) o).fst ++ natsV (gl k (o + E.places.placess (es.take (j + 1)))).fst)) hq1
      refine ⟨_, rfl, tf, _, 2, _, rfl, rfl, SqT.of (u1 _ _ c1), at_of (j := 2) rfl rfl, _, rfl, t, _, 2, _, rfl, rfl, SqT.of (u1 _ _ d1), at_of (j := 2) rfl rfl, l1, l2, _, _, rfl, rfl, u1 _ _ c3, u1 _ _ d3, by rw [natsV_len, natsV_len]; exact Nat.le_trans (m := 16) (by omega) (by decide), fun q2 hq2 => ?_⟩
      have u2 := same_upd (o := .lst (natsV (gR false (es.take (j + 1)) o).lst ++ natsV (gl k (o + E.places.placess (es.take (j + 1)))).lst)) hq2
      have U2 := u1.trans u2
      refine ⟨_, rfl, tf, _, 3, _, rfl, rfl, SqT.of (U2 _ _ c1), at_of (j := 3) rfl rfl, _, rfl, t, _, 3, _, rfl, rfl, SqT.of (U2 _ _ d1), at_of (j := 3) rfl rfl, p1, p2', vs1, vs2, rfl, rfl, U2 _ _ v1, U2 _ _ v3, Nat.le_trans (m := 20000) (by omega) (by decide), fun q3 hq3 => ?_⟩
      have u3 := same_upd (o := .lst (vs1 ++ vs2)) hq3
      refine ⟨by show 4 ≤ sizeLine; decide, fun T hT => ?_⟩
      have u4 := same_upd (o := .tup [.bl ((gR false (es.take (j + 1)) o).nul || (gl k (o + E.places.placess (es.take (j + 1)))).nul), .ref q1, .ref q2, .ref q3]) hT
      have U4 := U2.trans (u3.trans u4)
      obtain ⟨ev1, ev2, ev3, ev4⟩ := hev
      refine ⟨T, _, rfl, s3.trans U4, U4 _ _ hZ3, q1, q2, q3, ij1 ++ ij2, ?_, ?_, ?_, ?_, fun x => ?_, ?_, S3.free hq1, (S3.trans u1).free hq2, (S3.trans U2).free hq3⟩
      · rw [ev1]
        exact upd_same
      · rw [(u2.trans (u3.trans u4)) _ _ upd_same, ev2, natsV_app]
        rfl
      · rw [(u3.trans u4) _ _ upd_same, ev3, natsV_app]
        rfl
      · exact (PairsL.cat hq3 (v2.same U2) (v4.same U2)).same u4
      · rw [ev4, List.mem_append, c5, d5]
        exact List.mem_append.symm
      · rw [List.length_append]
        omega
  · rintro σ' H3 ⟨tf, o11, rfl, s3, hZ3, hTf⟩
    refine ⟨_, rfl, q tf H3 (SZ.trans s3) ?_⟩
    have e1 : es.take ((ts.drop 1).length + 1) = es := List.take_of_length_le (by rw [List.length_drop]; omega)
    rw [e1] at hTf
    rw [gl_row, row_parts]
    exact hTf.eqv (Eqv.refl _) (by omega) fun b hb => hb
theorem all_tables {f : Addr} {fd : FuncData} (B : Bt K mg a_BOUNDS a_LONG_BOUNDS tL tM) (Dd : Df K mg "_law_tables" s__law_tables ["_law_expression", "_law_start"] f fd) (G1 : Cl P w K mg base 1 "_law_joined" ["_law_one", "_law_other"] spJoined) (G2 : Cl P w K mg base 13 "_law_letters" ["_law_expression"] (spLet2 13)) :
    ∀ n, FnOk P w K mg base CX0 (n + 14) f fd ["_law_expression", "_law_start"] (spTables n)
  | 0 => none_left fun vs H Q Ex h => by
    obtain ⟨v, e, o, _, _, h1, _⟩ := h
    omega
  | n + 1 => tables_step B Dd G1 G2 n (Dd.cl (all_tables B Dd G1 G2 n))
theorem ok_tables {f : Addr} {fd : FuncData} (B : Bt K mg a_BOUNDS a_LONG_BOUNDS tL tM) (Dd : Df K mg "_law_tables" s__law_tables ["_law_expression", "_law_start"] f fd) (G_law_joined : Cl P w K mg base 1 "_law_joined" ["_law_one", "_law_other"] spJoined) (G_law_letters : Cl P w K mg base 13 "_law_letters" ["_law_expression"] (spLet2 13)) : FnOk P w K mg base CX0 21 f fd ["_law_expression", "_law_start"] (spTables 7) := all_tables B Dd G_law_joined G_law_letters 7
end
end My
namespace My
open PySem PySem.Spec PyProof.Rows L2
/-! ### what is near, whether sure -/
theorem sorted_nats {ns : List Int} {fs rs : List Nat} (hp : ns.Perm (fs.map fun (n : Nat) => (n : Int))) (hs : ns.Pairwise (· ≤ ·)) (nd : fs.Nodup) (hr : rs.Pairwise (· < ·)) (hm : ∀ n, n ∈ fs ↔ n ∈ rs) : ns = rs.map fun (n : Nat) => (n : Int) := by
  have hn : ∀ x ∈ ns, 0 ≤ x := fun x hx => by
    obtain ⟨n, _, rfl⟩ := List.mem_map.mp (hp.mem_iff.mp hx)
    omega
  have e : ns = (ns.map Int.toNat).map fun (n : Nat) => (n : Int) := by
    rw [List.map_map]
    refine (List.map_id ns).symm.trans (List.map_congr_left fun x hx => ?_)
    have := hn x hx
    show x = ((x.toNat : Nat) : Int)
    omega
  have nd2 : ns.Nodup := hp.nodup_iff.mpr (by
    rw [List.nodup_iff_pairwise_ne, List.pairwise_map]
    exact nd.imp fun h => by omega)
  have st : ns.Pairwise (· < ·) := by
    have := List.Pairwise.and hs nd2
    exact this.imp fun h => by omega
  have r1 : (ns.map Int.toNat).Pairwise (· < ·) := by
    rw [List.pairwise_map]
    refine st.imp_of_mem fun {x y} hx hy h => ?_
    have := hn x hx
    omega
  have : ns.map Int.toNat = rs := rise_eq r1 hr fun n => by
    rw [← hm]
    constructor
    · intro h
      obtain ⟨x, hx, rfl⟩ := List.mem_map.mp h
      obtain ⟨n, hn, e⟩ := List.mem_map.mp (hp.mem_iff.mp hx)
      rw [← e]
      exact hn
    · intro h
      exact List.mem_map.mpr ⟨(n : Int), hp.mem_iff.mpr (List.mem_map_of_mem h), by omega⟩
  rw [e, this]

theorem two_of {ns : List Nat} (hr : ns.Pairwise (· < ·)) (f : Nat → Nat) : (∃ j ∈ ns, 1 < ns.countP fun i => f i == f j) ↔ ∃ i ∈ ns, ∃ j ∈ ns, i < j ∧ f i = f j := by
  constructor
  · rintro ⟨j, hj, h⟩
    rw [List.countP_eq_length_filter] at h
    have hr2 : (ns.filter fun i => f i == f j).Pairwise (· < ·) := hr.sublist List.filter_sublist
    have hm : ∀ x ∈ ns.filter (fun i => f i == f j), x ∈ ns ∧ f x = f j := fun x hx => by
      rw [List.mem_filter, beq_iff_eq] at hx
      exact hx
    match hl : ns.filter (fun i => f i == f j), h, hr2, hm with
    | a :: b :: r, _, hr2, hm =>
      have h1 := hm a (List.mem_cons_self ..)
      have h2 := hm b (List.mem_cons_of_mem _ (List.mem_cons_self ..))
      exact ⟨a, h1.1, b, h2.1, (List.pairwise_cons.mp hr2).1 b (List.mem_cons_self ..), h1.2.trans h2.2.symm⟩
    | [a], h, _, _ => exact absurd h (by simp)
    | [], h, _, _ => exact absurd h (by simp)
  · rintro ⟨i, hi, j, hj, hij, e⟩
    refine ⟨i, hi, ?_⟩
    rw [List.countP_eq_length_filter]
    have h1 : i ∈ ns.filter (fun k => f k == f i) := List.mem_filter.mpr ⟨hi, beq_self_eq_true _⟩
    have h2 : j ∈ ns.filter (fun k => f k == f i) := List.mem_filter.mpr ⟨hj, by rw [e]; exact beq_self_eq_true _⟩
    match hl : ns.filter (fun k => f k == f i), h1, h2 with
    | [], h1, _ => cases h1
    | [a], h1, h2 =>
      rw [List.mem_singleton] at h1 h2
      omega
    | a :: b :: r, _, _ =>
      show 1 < r.length + 1 + 1
      omega
def ltrAt (e : E) (j : Nat) : Nat := e.letters.getD j 0
def ltrS (e : E) (j : Nat) : Str := ⟨#[ltrAt e j]⟩
theorem ltr_get {e : E} {j : Nat} (h : j < e.places) : e.letters[j]? = some (ltrAt e j) := by
  have hl : j < e.letters.length := by rw [letters_len]; exact h
  unfold ltrAt
  rw [List.getElem?_eq_getElem hl, List.getD_eq_getElem?_getD, List.getElem?_eq_getElem hl]
  rfl
theorem hasT_any (e : E) (t : Nat) : ((nearT e t).any fun j => decide (1 < ((nearT e t).map (ltrS e)).countP fun z => z.cps.toList == (ltrS e j).cps.toList)) = hasT e t := by
  have hc : ∀ j, (((nearT e t).map (ltrS e)).countP fun z => z.cps.toList == (ltrS e j).cps.toList) = (nearT e t).countP fun i => ltrAt e i == ltrAt e j := fun j => by
    rw [List.countP_map]
    congr 1
    funext i
    show ([ltrAt e i] == [ltrAt e j]) = _
    rw [Bool.eq_iff_iff, beq_iff_eq, beq_iff_eq]
    exact ⟨fun h => (List.cons.inj h).1, fun h => by rw [h]⟩
  have h2 := two_of (nearT_rise e t) (ltrAt e)
  unfold hasT
  rw [Bool.eq_iff_iff, List.any_eq_true, List.any_eq_true]
  constructor
  · rintro ⟨j, hj, h⟩
    rw [hc, decide_eq_true_eq] at h
    obtain ⟨a, ha, b, hb, hab, he⟩ := h2.mp ⟨j, hj, h⟩
    have la := nearT_lt e t a ha
    have lb := nearT_lt e t b hb
    refine ⟨(a, b), pairsN_mem.mpr ⟨la, lb⟩, decide_eq_true ⟨ha, hb, hab, ?_⟩⟩
    rw [ltr_get la, ltr_get lb, he]
  · rintro ⟨x, hx, h⟩
    obtain ⟨ha, hb, hab, he⟩ := of_decide_eq_true h
    have la := nearT_lt e t _ ha
    have lb := nearT_lt e t _ hb
    rw [ltr_get la, ltr_get lb] at he
    obtain ⟨j, hj, h3⟩ := h2.mpr ⟨_, ha, _, hb, hab, Option.some.inj he⟩
    exact ⟨j, hj, by rw [hc]; exact decide_eq_true h3⟩
def plV : Nat → V
  | 0 => .non
  | t + 1 => .int (t : Nat)
theorem plV_get {n i : Nat} {x : V} (h : (V.non :: rgV 0 (n : Int))[i]? = some x) : i ≤ n ∧ x = plV i := by
  cases i with
  | zero =>
    obtain rfl := Option.some.inj h
    exact ⟨Nat.zero_le _, rfl⟩
  | succ i =>
    have h : (rgV 0 (n : Int))[i]? = some x := h
    unfold rgV at h
    rw [List.getElem?_map] at h
    obtain ⟨j, hj, rfl⟩ := Option.map_eq_some_iff.mp h
    have hl := (List.getElem?_eq_some_iff.mp hj).1
    rw [List.length_range] at hl
    rw [List.getElem?_range hl] at hj
    obtain rfl := Option.some.inj hj
    refine ⟨by omega, ?_⟩
    show V.int _ = V.int ((i : Nat) : Int)
    congr 1
    omega
def spNearL : Sp := fun vs H Q _ => ∃ (v : V) (e : E) (t : Nat), vs = [v, plV t] ∧ Esh e ∧ t ≤ e.places ∧ Rep H v e.toD ∧ ∀ q H', Same H H' → H' q = some (.lst (natsV (nearT e t))) → Q (.ref q) H'
def spSureL : Sp := fun vs H Q _ => ∃ (v : V) (e : E), vs = [v] ∧ Esh e ∧ Rep H v e.toD ∧ ∀ H', Same H H' → Q (.bl (!confB e)) H'
section
variable {P : Program} {w : World} {K : PySem.W.Frag} {mg : Str → Option Value} {base : Heap} {a_BOUNDS a_LONG_BOUNDS : Addr} {tL tM : Tok}
abbrev N__law_near : List Str := ["_law_expression", "_law_place", "_law_empty", "_law_first", "_law_last", "_law_pairs", "_law_later"]
theorem sc__law_near : FnScope ["_law_expression", "_law_place", "_law_empty", "_law_first", "_law_last", "_law_pairs", "_law_later"] ["_law_expression", "_law_place"] (defScope s__law_near) := ⟨rfl, rfl, rfl, by decide +kernel, rfl, by decide +kernel, by decide +kernel⟩
theorem ok_nearL {f : Addr} {fd : FuncData} (B : Bt K mg a_BOUNDS a_LONG_BOUNDS tL tM) (Dd : Df K mg "_law_near" s__law_near ["_law_expression", "_law_place"] f fd) (G_law_tables : Cl P w K mg base 21 "_law_tables" ["_law_expression", "_law_start"] (spTables 7)) (G_law_letters : Cl P w K mg base 13 "_law_letters" ["_law_expression"] (spLet2 13)) : FnOk P w K mg base CX0 22 f fd ["_law_expression", "_law_place"] spNearL := by
  refine Dd.F.ok sc__law_near (fun vs H Q Ex h => ?_) (fun cdv A outer s H vs Q Ex hr h => ?_)
  · obtain ⟨v, e, t, rfl, _⟩ := h
    rfl
  obtain ⟨v, e, t, rfl, hE, ht, hR, q⟩ := h
  refine ⟨_, (pss_cons (ps_asg (pe_cl G_law_tables (hr.mono (by omega)) rfl (pa_cons (pv 0) (pa_cons pe_int pa_nil))) (pg_tup rfl (pgs_cons (pg_name (i := 2) sc__law_near.nd rfl (Or.inl rfl)) (pgs_cons (pg_name (i := 3) sc__law_near.nd rfl (Or.inl rfl)) (pgs_cons (pg_name (i := 4) sc__law_near.nd rfl (Or.inl rfl)) (pgs_cons (pg_name (i := 5) sc__law_near.nd rfl (Or.inr rfl)) pgs_nil))))))
    (pss_cons (ps_if (pt_cmpR op_isN (pv 1) pe_non (nomark _)) (pss_one (ps_ret (pe_callB cr_sorted rfl B.b_sorted boot_sorted (pa_cons (pv 3) pa_nil)))) pss_nil)
    (pss_one (ps_ret (pe_callB cr_sorted rfl B.b_sorted boot_sorted (pa_cons (pe_lc (own := [("_law_later", 6)]) (g := gName 6) rfl sc__law_near.nd (pi_range1 rfl B.b_range (pa_cons (pe_callB (r := rLenOf K) call_lenK rfl B.b_len boot_len (pa_cons (pe_cl G_law_letters (hr.mono (by omega)) rfl (pa_cons (pv 0) pa_nil)) pa_nil)) pa_nil)) (blkOk_by (N := N__law_near) (sc := defScope s__law_near) (by decide +kernel)) (fun _ _ _ _ _ => pg_name (i := 6) sc__law_near.nd rfl (Or.inl rfl)) (fun _ _ _ _ _ => pts_one (pt_cmpR (r := rInD K) (op_inD (u65 hr)) (pe_tup (pa_cons (pv 1) (pa_cons (pv 6) pa_nil))) (pv 5) rfl)) (fun _ _ _ _ _ => (pv 6))) pa_nil)))))), ?_⟩
  have dx := hE.dep
  have px := hE.pl
  have tx := hE.pt
  refine ⟨_, rfl, v, e, 0, rfl, hE.ok, by omega, by omega, px, by omega, by omega, hR, fun T H1 s1 hT => ?_⟩
  obtain ⟨f1, l1, p1, ij, a1, a2, a3, a4, a5, a6, _⟩ := hT.ex
  refine ⟨T, _, rfl, SqT.of a1, rfl, _, _, rfl, _, _, rfl, _, _, rfl, _, _, rfl, rfl, ?_⟩
  have fin : ∀ (H2 : Hp) (L : Addr) (ns rs : List Nat), Same H H2 → H2 L = some (.lst (natsV ns)) → ns.Pairwise (· < ·) → ns = nearT e t → rSorted K [V.ref L] H2 fun x H' => Q x H' := fun H2 L ns rs s2 hL hr he => by
    have hl : ns.length ≤ e.places := by rw [he]; exact nearT_len e t
    refine ⟨L, ns.map fun (n : Nat) => (n : Int), rfl, SqL.of (by rw [hL, natsV_int]), by rw [List.length_map]; omega, fun ks p hk hs hp => ?_⟩
    have := sorted_nats hk hs (hr.imp fun h => by omega) hr (fun n => Iff.rfl)
    subst this
    refine q p _ (s2.trans (same_upd hp)) ?_
    rw [upd_same, natsV_int, he]
  cases t with
  | zero =>
    refine ⟨_, rfl, rfl, _, rfl, iteT ?_⟩
    refine ⟨_, rfl, ?_⟩
    exact fin H1 f1 (gl e 0).fst [] s1 a2 (gl_rise e 0).fst rfl
  | succ t =>
    refine ⟨_, rfl, rfl, _, rfl, iteF ?_⟩
    refine ⟨_, rfl, v, e, rfl, hE.ok, by omega, by omega, hR.pers (Pers.same s1), fun z H2 s2 hz1 hz2 => ?_⟩
    refine ⟨_, z.length, rfl, ⟨by rw [hz2]; exact Nat.le_trans px (by decide), rfl⟩, _, rfl, by omega, by omega, fun D hD => ?_⟩
    have hzn : (((z.length : Nat) : Int)).toNat = e.places := by omega
    have hP2 := a4.same s2
    refine lc_range (lo := 0) (n := (((z.length : Nat) : Int)).toNat) (fun k H3 => Same H2 H3 ∧ H3 D = some (.lst (natsV (((List.range k).filter fun j => decide ((t, j) ∈ (gl e 0).fol)))))) ⟨same_upd hD, upd_same⟩ (fun k H3 hk h => ?_) (fun H3 h => ?_)
    · obtain ⟨s3, hD3⟩ := h
      have e0 : (0 : Int) + (k : Int) = ((k : Nat) : Int) := Int.zero_add _
      refine ⟨rfl, _, rfl, _, rfl, by show 2 ≤ sizeLine; decide, fun q1 hq1 => ?_⟩
      have s4 := same_upd (o := .tup [plV (t + 1), V.int (0 + (k : Int))]) hq1
      have hq2 : (upd H3 q1 (.tup [plV (t + 1), V.int (0 + (k : Int))])) q1 = some (.tup [.int (((t, k) : Nat × Nat).1 : Int), .int (((t, k) : Nat × Nat).2 : Int)]) := by
        rw [upd_same, e0]
        rfl
      refine ⟨_, rfl, pd (t, k), ij.map pd, pd_dp hq2, ((hP2.same s3).same s4).dp, pd_shaped _, pds_shaped _, _, rfl, ?_⟩
      rw [pd_any]
      have hiff : (t, k) ∈ ij ↔ (t, k) ∈ (gl e 0).fol := a5 (t, k)
      have hD4 := s4 _ _ hD3
      rw [List.range_succ, List.filter_append]
      refine ite2 (fun c => ?_) (fun c => ?_)
      · have c := hiff.mp (of_decide_eq_true c)
        refine ⟨_, rfl, _, hD4, ?_, fun b o hb => by rw [upd_ne (ne_of_none hb hD)]; exact s4 _ _ (s3 _ _ hb), ?_⟩
        · rw [natsV_len]
          exact Nat.lt_of_le_of_lt (Nat.le_trans (List.length_filter_le _ _) (by rw [List.length_range]; omega : _ ≤ 8)) (by decide)
        · rw [upd_same, List.filter_cons_of_pos (by exact decide_eq_true c), ← natsV_app, e0]
          rfl
      · have c : ¬ (t, k) ∈ (gl e 0).fol := fun h => c (decide_eq_true (hiff.mpr h))
        refine ⟨s3.trans s4, ?_⟩
        rw [hD4, List.filter_cons_of_neg (by rw [decide_eq_true_eq]; exact c)]
        show _ = some (HO.lst (natsV (_ ++ [])))
        rw [List.append_nil]
    · obtain ⟨s3, hD3⟩ := h
      rw [hzn] at hD3
      exact fin H3 D (folAt e t) [] (s1.trans (s2.trans s3)) hD3 (nearT_rise e (t + 1)) rfl
abbrev N__law_is_sure : List Str := ["_law_expression", "_law_letters_here", "_law_place", "_law_near_here", "_law_later", "_law_letter"]
theorem sc__law_is_sure : FnScope ["_law_expression", "_law_letters_here", "_law_place", "_law_near_here", "_law_later", "_law_letter"] ["_law_expression"] (defScope s__law_is_sure) := ⟨rfl, rfl, rfl, by decide +kernel, rfl, by decide +kernel, by decide +kernel⟩
theorem ok_sureL {f : Addr} {fd : FuncData} (B : Bt K mg a_BOUNDS a_LONG_BOUNDS tL tM) (Dd : Df K mg "_law_is_sure" s__law_is_sure ["_law_expression"] f fd) (G_law_near : Cl P w K mg base 22 "_law_near" ["_law_expression", "_law_place"] spNearL) (G_law_letters : Cl P w K mg base 13 "_law_letters" ["_law_expression"] (spLet2 13)) : FnOk P w K mg base CX0 23 f fd ["_law_expression"] spSureL := by
  refine Dd.F.ok sc__law_is_sure (fun vs H Q Ex h => ?_) (fun cdv A outer s H vs Q Ex hr h => ?_)
  · obtain ⟨v, e, rfl, _⟩ := h
    rfl
  obtain ⟨v, e, rfl, hE, hR, q⟩ := h
  refine ⟨_, (pss_cons (ps_set (i := 1) sc__law_is_sure.nd rfl (Or.inr rfl) (pe_cl G_law_letters (hr.mono (by omega)) rfl (pa_cons (pv 0) pa_nil)))
    (pss_cons (ps_for PassesOwn.never rfl (pi_list (pe_op op_cat (pe_lst (pa_cons pe_non pa_nil)) (pe_listRg rfl rfl B.b_list (prg_1 rfl B.b_range (pe_callB (r := rLenOf K) call_lenK rfl B.b_len boot_len (pa_cons (pv 1) pa_nil)))))) (pg_name (i := 2) sc__law_is_sure.nd rfl (Or.inl rfl)) (pss_cons (ps_set (i := 3) sc__law_is_sure.nd rfl (Or.inr rfl) (pe_lc (own := [("_law_later", 4)]) (g := gName 4) (tt := tYes) rfl sc__law_is_sure.nd (pi_list (pe_cl G_law_near (hr.mono (by omega)) rfl (pa_cons (pv 0) (pa_cons (pv 2) pa_nil)))) (blkOk_by (N := N__law_is_sure) (sc := defScope s__law_is_sure) (by decide +kernel)) (fun _ _ _ _ _ => pg_name (i := 4) sc__law_is_sure.nd rfl (Or.inl rfl)) (fun _ _ _ _ _ => pts_nil) (fun _ _ _ _ _ => (pe_ix ix_str (pv 1) (pv 4) (fun _ _ => rfl)))))
    (pss_one (ps_if (pt_val (pe_callB (cr_any rfl) rfl B.b_any boot_any (pa_cons (pe_lc (own := [("_law_letter", 5)]) (g := gName 5) (tt := tYes) rfl sc__law_is_sure.nd (pi_list (pv 3)) (blkOk_by (N := N__law_is_sure) (sc := defScope s__law_is_sure) (by decide +kernel)) (fun _ _ _ _ _ => pg_name (i := 5) sc__law_is_sure.nd rfl (Or.inl rfl)) (fun _ _ _ _ _ => pts_nil) (fun _ _ _ _ _ => (pe_cmpR op_gt (pe_bmB (K := K) rfl PySem.F.plainAttrs_list PySem.F.slot_list_count PySem.F.type_list_count (mt_lcountB rfl) (pv 3) (pa_cons (pv 5) pa_nil)) pe_int (nomark _)))) pa_nil))) (pss_one (ps_ret pe_bl)) pss_nil))))
    (pss_one (ps_ret pe_bl)))), ?_⟩
  have dx := hE.dep
  have px := hE.pl
  have tx := hE.pt
  refine ⟨_, rfl, v, e, rfl, hE.ok, by omega, by omega, hR, fun z H1 s1 hz1 hz2 => ?_⟩
  have hR1 := hR.pers (Pers.same s1)
  refine ⟨by show 1 ≤ sizeLine; decide, fun L1 hL1 => ?_⟩
  have s2 := same_upd (o := .lst [V.non]) hL1
  have hzi : ((z.length : Nat) : Int) = ((e.places : Nat) : Int) := by omega
  refine ⟨_, rfl, _, z.length, rfl, ⟨by rw [hz2]; exact Nat.le_trans px (by decide), rfl⟩, _, rfl, ?_, fun L2 hL2 => ?_⟩
  · unfold RgOk
    omega
  rw [hzi] at *
  have s3 := same_upd (o := .lst (rgV 0 ((e.places : Nat) : Int))) hL2
  have hrl : (rgV 0 ((e.places : Nat) : Int)).length = e.places := by
    unfold rgV
    rw [List.length_map, List.length_range]
    omega
  refine ⟨L1, L2, _, _, rfl, rfl, s3 _ _ upd_same, upd_same, Nat.le_trans (m := 20) (by rw [hrl]; show 1 + e.places ≤ 20; omega) (by decide), fun p hp => ?_⟩
  have s4 := same_upd (o := .lst ([V.non] ++ rgV 0 ((e.places : Nat) : Int))) hp
  have hp4 := upd_same (H := upd (upd H1 L1 (.lst [V.non])) L2 (.lst (rgV 0 ((e.places : Nat) : Int)))) (a := p) (o := .lst ([V.non] ++ rgV 0 ((e.places : Nat) : Int)))
  have S4 := s1.trans (s2.trans (s3.trans s4))
  revert hp4 S4
  generalize upd (upd (upd H1 L1 (.lst [V.non])) L2 (.lst (rgV 0 ((e.places : Nat) : Int)))) p (.lst ([V.non] ++ rgV 0 ((e.places : Nat) : Int))) = H4
  intro hp4 S4
  refine ⟨p, rfl, ⟨_, SqL.of hp4⟩, for_list (K := K) (a := p) (xs := [V.non] ++ rgV 0 ((e.places : Nat) : Int)) (fun i σ' H' => ∃ (o2 o3 : Option V), σ' = [some v, some (.str z), o2, o3, none, none] ∧ Same H4 H' ∧ ∀ t, t < i → hasT e t = false) ?_ ?_ ?_ ?_⟩
  · exact ⟨none, none, rfl, Same.refl _, fun t ht => absurd ht (Nat.not_lt_zero _)⟩
  · rintro i σ' H' _ ⟨o2, o3, rfl, s5, _⟩
    exact SqL.of (s5 _ _ hp4)
  · rintro i x σ' H5 hx ⟨o2, o3, rfl, s5, hno⟩
    obtain ⟨hip, rfl⟩ := plV_get hx
    have hnl := nearT_len e i
    refine ⟨_, rfl, _, rfl, v, e, i, rfl, hE, hip, hR.pers (Pers.same (S4.trans s5)), fun q6 H6 s6 hq6 => ⟨q6, rfl, ⟨_, SqL.of hq6⟩, fun D hD => ?_⟩⟩
    refine lc_list (K := K) (a := q6) (xs := natsV (nearT e i)) (fun k H7 => Same H6 H7 ∧ H7 D = some (.lst ((((nearT e i).take k).map (ltrS e)).map V.str))) ⟨same_upd hD, upd_same⟩ (fun k H7 _ h => SqL.of (h.1 _ _ hq6)) (fun k y H7 hy h => ?_) (fun H7 h => ?_)
    · obtain ⟨s7, hD7⟩ := h
      obtain ⟨j, hj, rfl⟩ := natsV_get hy
      have hjp := nearT_lt e i j (List.mem_of_getElem? hj)
      have hkl := (List.getElem?_eq_some_iff.mp hj).1
      have hat : atI z.cps.toList (j : Int) = some (ltrAt e j) := by rw [hz1]; exact atI_nat (ltr_get hjp)
      refine ⟨rfl, tyes ⟨_, rfl, _, rfl, z, (j : Int), ltrAt e j, rfl, rfl, by rw [hz2]; exact Nat.le_trans px (by decide), hat, _, hD7, ?_, fun b o hb => by rw [upd_ne (ne_of_none hb hD)]; exact s7 _ _ hb, ?_⟩⟩
      · rw [List.length_map, List.length_map, List.length_take]
        exact Nat.lt_of_le_of_lt (m := 8) (by omega) (by decide)
      · rw [upd_same, take_snoc hj, List.map_append, List.map_append]
        rfl
    obtain ⟨s7, hD7⟩ := h
    rw [natsV_len, List.take_length] at hD7
    refine ⟨_, rfl, D, rfl, ⟨_, SqL.of hD7⟩, fun D2 hD2 => ?_⟩
    refine lc_list (K := K) (a := D) (xs := ((nearT e i).map (ltrS e)).map V.str) (fun k H8 => Same H7 H8 ∧ H8 D2 = some (.lst ((((nearT e i).take k).map fun j => decide (1 < ((nearT e i).map (ltrS e)).countP fun z => z.cps.toList == (ltrS e j).cps.toList)).map V.bl))) ⟨same_upd hD2, upd_same⟩ (fun k H8 _ h => SqL.of (h.1 _ _ hD7)) (fun k y H8 hy h => ?_) (fun H8 h => ?_)
    · obtain ⟨s8, hD8⟩ := h
      rw [List.getElem?_map, List.getElem?_map] at hy
      obtain ⟨z2, hz2', rfl⟩ := Option.map_eq_some_iff.mp hy
      obtain ⟨j, hj, rfl⟩ := Option.map_eq_some_iff.mp hz2'
      have hkl := (List.getElem?_eq_some_iff.mp hj).1
      refine ⟨rfl, tyes ⟨_, rfl, .inl ⟨rfl, _, SqL.of (s8 _ _ hD7)⟩, _, rfl, D, (nearT e i).map (ltrS e), ltrS e j, rfl, rfl, SqL.of (s8 _ _ hD7), _, _, rfl, rfl, _, hD8, ?_, fun b o hb => by rw [upd_ne (ne_of_none hb hD2)]; exact s8 _ _ hb, ?_⟩⟩
      · rw [List.length_map, List.length_map, List.length_take]
        exact Nat.lt_of_le_of_lt (m := 8) (by omega) (by decide)
      · rw [upd_same, take_snoc hj, List.map_append, List.map_append]
        have ec : ∀ n : Nat, decide ((1 : Int) < (n : Int)) = decide (1 < n) := fun n => decide_eq_decide.mpr ⟨fun h => by omega, fun h => by omega⟩
        exact congrArg (fun b => some (HO.lst (_ ++ [V.bl b]))) (ec _)
    obtain ⟨s8, hD8⟩ := h
    rw [List.length_map, List.length_map, List.take_length] at hD8
    refine ⟨D2, _, rfl, SqL.of hD8, ?_⟩
    have eany : (((nearT e i).map fun j => decide (1 < ((nearT e i).map (ltrS e)).countP fun z => z.cps.toList == (ltrS e j).cps.toList))).any id = hasT e i := by
      rw [← hasT_any, List.any_map]
      rfl
    rw [eany]
    have S8 := s5.trans (s6.trans (s7.trans s8))
    refine ⟨_, rfl, ?_⟩
    cases hT : hasT e i with
    | true =>
      refine iteT ?_
      have hc : confB e = true := by
        rw [← conf_any, List.any_map, List.any_eq_true]
        exact ⟨i, List.mem_range.mpr (by omega), hT⟩
      have h := q H8 (S4.trans S8)
      rw [hc] at h
      exact h
    | false =>
      refine iteF ⟨_, _, rfl, S8, fun t ht => ?_⟩
      by_cases c : t = i
      · rw [c]; exact hT
      · exact hno t (by omega)
  · rintro σ' H5 ⟨o2, o3, rfl, s5, hno⟩
    have hl : ([V.non] ++ rgV 0 ((e.places : Nat) : Int)).length = e.places + 1 := by rw [List.length_append, hrl]; show 1 + e.places = _; omega
    rw [hl] at hno
    have hc : confB e = false := by
      rw [← conf_any, List.any_map, List.any_eq_false]
      intro t ht
      rw [List.mem_range] at ht
      show ¬ hasT e t = true
      rw [hno t ht]
      exact Bool.false_ne_true
    have h := q H5 (S4.trans s5)
    rw [hc] at h
    exact h
end
end My
namespace My
open PySem PySem.Spec PyProof.Rows L2
/-! ### readers -/
def XpN (CN : Addr) (H : Hp) (Ex : XK) (nm : Str) : Prop := ∀ d H1, Same H H1 → H1 d = none → Ex (.ref CN) (some d) (upd H1 d (.xd [(("why" : Str), .str nm)]))
def spSureX (C CN : Addr) : Sp := fun vs H Q Ex => ∃ (v : V) (e : E), vs = [v] ∧ Esh e ∧ Rep H v e.toD ∧ (confB e = false → ∀ p H', Same H H' → StepsAt C H' p e → Q (.ref p) H') ∧ (confB e = true → XpN CN H Ex "doubt")
def rdF (v s j r : V) : List (Str × V) := putF "_reads" r (putF "_journal" j (putF "_steps" s (putF "_expression" v [])))
theorem rdF_journal (v s j r : V) : (rdF v s j r).lookup ("_journal" : Str) = some j := by
  unfold rdF
  rw [lookup_putF, if_neg (by decide +kernel), lookup_putF, if_pos rfl]
theorem rdF_none (v s j r : V) {m : Str} (h1 : ¬ m = "_reads") (h2 : ¬ m = "_journal") (h3 : ¬ m = "_steps") (h4 : ¬ m = "_expression") : (rdF v s j r).lookup m = none := by
  unfold rdF
  rw [lookup_putF, if_neg h1, lookup_putF, if_neg h2, lookup_putF, if_neg h3, lookup_putF, if_neg h4]
  rfl
structure RdTxt (K : PySem.W.Frag) (CR : Addr) : Prop where
  cl : Cls K CR
  a1 : NoAttr K CR "_expression"
  a2 : NoAttr K CR "_steps"
  a3 : NoAttr K CR "_journal"
  a4 : NoAttr K CR "_reads"
def ButP (p : Addr) (H H' : Hp) : Prop := ∀ b o, H b = some o → b ≠ p → H' b = some o
theorem ButP.trans {p : Addr} {H H1 H2 : Hp} (x : ButP p H H1) (y : ButP p H1 H2) : ButP p H H2 := fun b o hb hn => y _ _ (x _ _ hb hn) hn
theorem ButP.same {p : Addr} {H H' : Hp} (s : Same H H') : ButP p H H' := fun b o hb _ => s _ _ hb
theorem ButP.upd {p : Addr} {H : Hp} {u : HO} : ButP p H (upd H p u) := fun b o hb hn => by rw [upd_ne hn]; exact hb
theorem ButP.pers {p CR dx : Addr} {fl : List (Str × V)} {H H' : Hp} (hp : H p = some (.ins CR dx fl)) (k : ButP p H H') : Pers H H' := ⟨fun b xs hb => k b _ hb (fun e => by rw [e, hp] at hb; cases hb), fun b xs hb => ⟨xs, k b _ hb (fun e => by rw [e, hp] at hb; cases hb)⟩⟩
theorem StepsAt.but {C C' p p0 dx : Addr} {fl : List (Str × V)} {H H' : Hp} {e : E} (h : StepsAt C H p0 e) (hp : H p = some (.ins C' dx fl)) (hn : fl.lookup ("letters" : Str) = none) (k : ButP p H H') : StepsAt C H' p0 e := by
  obtain ⟨dx2, f, l, o, z, ts, h1, h2, h3, h4, h5, h6, h7⟩ := h.ex
  have h0 : p0 ≠ p := fun e0 => by
    rw [e0, hp] at h1
    have h1 := (HO.ins.inj (Option.some.inj h1)).2.2
    rw [h1, stF_letters] at hn
    cases hn
  have nt : ∀ {b : Addr} {xs : List V}, H b = some (.tup xs) → b ≠ p := fun hb e0 => by
    rw [e0, hp] at hb
    cases hb
  have nl : ∀ {b : Addr} {xs : List V}, H b = some (.lst xs) → b ≠ p := fun hb e0 => by
    rw [e0, hp] at hb
    cases hb
  refine ⟨dx2, f, l, o, z, ts, k _ _ h1 h0, h2, k _ _ h3 (nt h3), k _ _ h4 (nt h4), k _ _ h5 (nl h5), h6, fun i t ht => ?_⟩
  obtain ⟨q, a, b⟩ := h7 i t ht
  exact ⟨q, a, k _ _ b (nt b)⟩
/-- Steps with the list of the following places told -/
structure StepsO (C : Addr) (H : Hp) (p o : Addr) (e : E) : Prop where
  ex : ∃ (dx f l : Addr) (z : Str) (ts : List V), H p = some (.ins C dx (stF (.str z) (.bl (gl e 0).nul) (.ref f) (.ref l) (.ref o))) ∧ z.cps.toList = e.letters ∧ H f = some (.tup (natsV (gl e 0).fst)) ∧ H l = some (.tup (natsV (gl e 0).lst)) ∧ H o = some (.lst ts) ∧ ts.length = e.places ∧
    ∀ i t, ts[i]? = some t → ∃ q, t = .ref q ∧ H q = some (.tup (natsV (folAt e i)))
theorem StepsAt.so {C : Addr} {H : Hp} {p : Addr} {e : E} (h : StepsAt C H p e) : ∃ o, StepsO C H p o e := by
  obtain ⟨dx, f, l, o, z, ts, h⟩ := h.ex
  exact ⟨o, dx, f, l, z, ts, h⟩
theorem StepsO.at {C : Addr} {H : Hp} {p o : Addr} {e : E} (h : StepsO C H p o e) : StepsAt C H p e := by
  obtain ⟨dx, f, l, z, ts, h⟩ := h.ex
  exact ⟨dx, f, l, o, z, ts, h⟩
theorem StepsO.keep {C : Addr} {H H' : Hp} {p o : Addr} {e : E} (h : StepsO C H p o e) (k : ∀ b u, H b = some u → b = p ∨ b = o ∨ (∃ xs, u = .tup xs) → H' b = some u) : StepsO C H' p o e := by
  obtain ⟨dx, f, l, z, ts, h1, h2, h3, h4, h5, h6, h7⟩ := h.ex
  refine ⟨dx, f, l, z, ts, k _ _ h1 (.inl rfl), h2, k _ _ h3 (.inr (.inr ⟨_, rfl⟩)), k _ _ h4 (.inr (.inr ⟨_, rfl⟩)), k _ _ h5 (.inr (.inl rfl)), h6, fun i t ht => ?_⟩
  obtain ⟨q, a, b⟩ := h7 i t ht
  exact ⟨q, a, k _ _ b (.inr (.inr ⟨_, rfl⟩))⟩
theorem StepsO.same {C : Addr} {H H' : Hp} {p o : Addr} {e : E} (s : Same H H') (h : StepsO C H p o e) : StepsO C H' p o e := h.keep fun b u hb _ => s _ _ hb
theorem StepsO.lo {C : Addr} {H : Hp} {p o : Addr} {e : E} (h : StepsO C H p o e) : ∃ ts, H o = some (.lst ts) ∧ ∀ t ∈ ts, ∃ q, t = .ref q := by
  obtain ⟨dx, f, l, z, ts, h1, h2, h3, h4, h5, h6, h7⟩ := h.ex
  refine ⟨ts, h5, fun t ht => ?_⟩
  obtain ⟨i, hi⟩ := List.mem_iff_getElem?.mp ht
  obtain ⟨q, a, _⟩ := h7 i t hi
  exact ⟨q, a⟩
theorem StepsO.but {C C' p p0 o dx : Addr} {fl : List (Str × V)} {H H' : Hp} {e : E} (h : StepsO C H p0 o e) (hp : H p = some (.ins C' dx fl)) (hn : fl.lookup ("letters" : Str) = none) (k : ButP p H H') : StepsO C H' p0 o e := by
  obtain ⟨dx2, f, l, z, ts, h1, h2, h3, h4, h5, h6, h7⟩ := h.ex
  have h0 : p0 ≠ p := fun e0 => by
    rw [e0, hp] at h1
    have h1 := (HO.ins.inj (Option.some.inj h1)).2.2
    rw [h1, stF_letters] at hn
    cases hn
  refine h.keep fun b u hb hc => k b u hb fun e0 => ?_
  rcases hc with rfl | rfl | ⟨xs, rfl⟩
  · exact h0 e0
  · rw [e0, hp] at h5
    cases h5
  · rw [e0, hp] at hb
    cases hb
/-- a reader: the list of the following places, the journal's and the read places' lists are told -/
structure RdS (CR CS : Addr) (H : Hp) (p o jL rL : Addr) (v : V) (e : E) (js : List V) (pss : List (List Nat)) : Prop where
  ex : ∃ (dx sp : Addr) (rs : List V), H p = some (.ins CR dx (rdF v (.ref sp) (.ref jL) (.ref rL))) ∧ StepsO CS H sp o e ∧ H jL = some (.lst js) ∧ H rL = some (.lst rs) ∧ Two (fun x ps => ∃ r, x = V.ref r ∧ H r = some (.tup (natsV ps))) rs pss
  n1 : jL ≠ rL
  n2 : o ≠ jL
  n3 : o ≠ rL
theorem RdS.keep {CR CS : Addr} {H H' : Hp} {p o jL rL : Addr} {v : V} {e : E} {js : List V} {pss : List (List Nat)} (h : RdS CR CS H p o jL rL v e js pss) (k : ∀ b u, H b = some u → ((∃ xs, u = .lst xs) → b = o ∨ b = jL ∨ b = rL) → H' b = some u) : RdS CR CS H' p o jL rL v e js pss := by
  obtain ⟨dx, sp, rs, h1, h2, h3, h4, h5⟩ := h.ex
  refine ⟨⟨dx, sp, rs, k _ _ h1 (fun ⟨_, c⟩ => by cases c), h2.keep fun b u hb hc => k b u hb fun ⟨xs, c⟩ => ?_, k _ _ h3 fun _ => .inr (.inl rfl), k _ _ h4 fun _ => .inr (.inr rfl), h5.mono fun x ps ⟨r, e1, e2⟩ => ⟨r, e1, k _ _ e2 fun ⟨_, c⟩ => by cases c⟩⟩, h.n1, h.n2, h.n3⟩
  rcases hc with rfl | rfl | ⟨ys, rfl⟩
  · obtain ⟨_, _, _, _, _, g, _⟩ := h2.ex
    rw [hb, c] at g
    cases g
  · exact .inl rfl
  · cases c
theorem RdS.same {CR CS : Addr} {H H' : Hp} {p o jL rL : Addr} {v : V} {e : E} {js : List V} {pss : List (List Nat)} (s : Same H H') (h : RdS CR CS H p o jL rL v e js pss) : RdS CR CS H' p o jL rL v e js pss := h.keep fun b u hb _ => s _ _ hb
/-- over draws -/
theorem RdS.go {CR CS a : Addr} {H H' : Hp} {p o jL rL : Addr} {v : V} {e : E} {js : List V} {pss : List (List Nat)} (h : RdS CR CS H p o jL rL v e js pss) (g : Go a H H') (h1 : jL ≠ a) (h2 : rL ≠ a) : RdS CR CS H' p o jL rL v e js pss := by
  have hs := g.st0
  obtain ⟨l0, c0, k0, n0, w0⟩ := hs
  refine h.keep fun b u hb hc => g.keep b u hb fun e0 => ?_
  subst e0
  have hl := w0.1
  rw [hb] at hl
  have hl := Option.some.inj hl
  rcases hc ⟨_, hl⟩ with e1 | e1 | e1
  · obtain ⟨dx, sp, rs, _, g2, _⟩ := h.ex
    obtain ⟨ts, g3, g4⟩ := g2.lo
    rw [← e1, hb, hl] at g3
    have g3 := HO.lst.inj (Option.some.inj g3)
    obtain ⟨q, hq⟩ := g4 (.int c0) (by rw [← g3]; simp)
    cases hq
  · exact h1 e1.symm
  · exact h2 e1.symm
def KeepR (jL rL : Addr) (H H' : Hp) : Prop := ∀ b u, H b = some u → b ≠ jL → b ≠ rL → H' b = some u
theorem KeepR.trans {jL rL : Addr} {H H1 H2 : Hp} (x : KeepR jL rL H H1) (y : KeepR jL rL H1 H2) : KeepR jL rL H H2 := fun b u hb h1 h2 => y _ _ (x _ _ hb h1 h2) h1 h2
theorem KeepR.same {jL rL : Addr} {H H' : Hp} (s : Same H H') : KeepR jL rL H H' := fun b u hb _ _ => s _ _ hb
def spRdInitX (CR CS CN : Addr) : Sp := fun vs H Q Ex => ∃ (p dx : Addr) (v : V) (e : E), vs = [.ref p, v] ∧ H p = some (.ins CR dx []) ∧ Esh e ∧ Rep H v e.toD ∧ (confB e = false → ∀ H' (o jL rL : Addr), ButP p H H' → H jL = none → H rL = none → RdS CR CS H' p o jL rL v e [] [[]] → Q .non H') ∧ (confB e = true → ∀ d H1, ButP p H H1 → H1 d = none → Ex (.ref CN) (some d) (upd H1 d (.xd [(("why" : Str), .str "doubt")])))
def spJournal (CR CS : Addr) : Sp := fun vs H Q _ => ∃ (p o jL rL : Addr) (v : V) (e : E) (js : List V) (pss : List (List Nat)), vs = [.ref p] ∧ RdS CR CS H p o jL rL v e js pss ∧ js.length ≤ 100 ∧ ∀ q H', Same H H' → H' q = some (.tup js) → Q (.ref q) H'
section
variable {P : Program} {w : World} {K : PySem.W.Frag} {mg : Str → Option Value} {base : Heap} {a_BOUNDS a_LONG_BOUNDS : Addr} {tL tM : Tok} {CN fI : Addr}
abbrev N_sure_steps_of : List Str := ["expression", "steps"]
theorem sc_sure_steps_of : FnScope ["expression", "steps"] ["expression"] (defScope s_sure_steps_of) := ⟨rfl, rfl, rfl, by decide +kernel, rfl, by decide +kernel, by decide +kernel⟩
theorem ok_suresteps {C f : Addr} {fd : FuncData} (T : StTxt K C) (B : Bt K mg a_BOUNDS a_LONG_BOUNDS tL tM) (Dd : Df K mg "sure_steps_of" s_sure_steps_of ["expression"] f fd) (TNotPossible : ExNotPossible.Txt K mg CN fI) (PNotPossible : ExNotPossible.Prg P) (GDcheck_expression : ClD P w K mg base 6 "check_expression" ["value", "name"] [V.str "expression"] spChkE) (Gsteps_of : Cl P w K mg base 87 "steps_of" ["expression"] (spSteps C)) (Ghas_conflict : Cl P w K mg base 3 "has_conflict" ["steps"] (spHasC C)) : FnOk P w K mg base (L2.CX P w) 88 f fd ["expression"] (spSureX C CN) := by
  refine Dd.F.okX sc_sure_steps_of (fun vs H Q Ex h => ?_) (fun cdv A outer s H vs Q Ex hr h => ?_)
  · obtain ⟨v, e, rfl, _⟩ := h
    rfl
  obtain ⟨v, e, rfl, hE, hR, q, qe⟩ := h
  refine ⟨_, (pss_cons (ps_expr (pe_clD GDcheck_expression (hr.mono (by omega)) rfl (pa_cons (pv 0) pa_nil)))
    (pss_cons (ps_set (i := 1) sc_sure_steps_of.nd rfl (Or.inl rfl) (pe_cl Gsteps_of (hr.mono (by omega)) rfl (pa_cons (pv 0) pa_nil)))
    (pss_cons (ps_if (pt_val (pe_cl Ghas_conflict (hr.mono (by omega)) rfl (pa_cons (pv 1) pa_nil))) (pss_one (ps_raise rfl (takes_of rfl rfl rfl rfl) (pmkNotPossible TNotPossible PNotPossible hr (pa_cons pe_str pa_nil)))) pss_nil)
    (pss_one (ps_ret (pv 1)))))), ?_⟩
  refine ⟨_, rfl, v, e, _, rfl, hE, hR, fun H1 s1 => ?_⟩
  refine ⟨_, rfl, v, e, rfl, hE.ok, by have := hE.dep; omega, by have := hE.pl; omega, hR.pers (Pers.same s1), fun p H2 s2 S => ?_⟩
  refine ⟨_, rfl, p, e, rfl, S, by have := hE.pl; omega, fun H3 s3 => ⟨_, rfl, ?_⟩⟩
  cases hc : confB e with
  | true => exact iteT ⟨_, rfl, by decide, fun d hd => qe hc d H3 (s1.trans (s2.trans s3)) hd⟩
  | false => exact iteF ⟨_, rfl, q hc p H3 (s1.trans (s2.trans s3)) (S.same s3)⟩
abbrev N_Reader___init__ : List Str := ["self", "expression"]
theorem sc_Reader___init__ : FnScope ["self", "expression"] ["self", "expression"] (defScope s_Reader___init__) := ⟨rfl, rfl, rfl, by decide +kernel, rfl, by decide +kernel, by decide +kernel⟩
theorem init_rdX {CR CS f : Addr} {fd : FuncData} (F : Fun K "__init__" "Reader.__init__" s_Reader___init__ f fd) (TR : RdTxt K CR) (Gsure_steps_of : ClX P w K mg base 88 "sure_steps_of" ["expression"] (spSureX CS CN)) : FnOk P w K mg base (L2.CX P w) 89 f fd ["self", "expression"] (spRdInitX CR CS CN) := by
  refine F.okX sc_Reader___init__ (fun vs H Q Ex h => ?_) (fun cdv A outer s H vs Q Ex hr h => ?_)
  · obtain ⟨p, dx, v, e, rfl, _⟩ := h
    rfl
  obtain ⟨p, dx, v, e, rfl, hp, hE, hR, q, qe⟩ := h
  refine ⟨_, (pss_cons (ps_fld (pv 0) (pv 1) rfl)
    (pss_cons (ps_fld (pv 0) (pe_clS Gsure_steps_of (takes_of rfl rfl rfl rfl) (hr.mono (by omega)) rfl (pa_cons (pv 1) pa_nil)) rfl)
    (pss_cons (ps_fld (pv 0) (pe_lst pa_nil) rfl)
    (pss_one (ps_fld (pv 0) (pe_lst (pa_cons (pe_tup pa_nil) pa_nil)) rfl))))), ?_⟩
  have L1 : (putF "_expression" v ([] : List (Str × V))).length ≤ 1 := putF_len _ _ _
  refine ⟨_, rfl, _, rfl, p, CR, dx, _, rfl, hp, TR.cl, TR.a1, (by show 0 < 1000; decide), ?_⟩
  have b1 : ButP p H (upd H p (.ins CR dx (putF "_expression" v []))) := ButP.upd
  have hp1 := upd_same (H := H) (a := p) (o := .ins CR dx (putF "_expression" v []))
  have hR1 := hR.pers (b1.pers hp)
  revert b1 hp1 hR1
  generalize upd H p (.ins CR dx (putF "_expression" v [])) = H1
  intro b1 hp1 hR1
  refine ⟨_, rfl, v, e, rfl, hE, hR1, fun hc sp H2 s2 S => ?_, fun hc d H2 s2 hd => qe hc d H2 (b1.trans (ButP.same s2)) hd⟩
  have hp2 := s2 _ _ hp1
  obtain ⟨o, S⟩ := S.so
  have L2 := putF_len "_steps" (.ref sp) (putF "_expression" v ([] : List (Str × V)))
  refine ⟨_, rfl, p, CR, dx, _, rfl, hp2, TR.cl, TR.a2, (by omega), ?_⟩
  have b3 : ButP p H2 (upd H2 p (.ins CR dx (putF "_steps" (.ref sp) (putF "_expression" v [])))) := ButP.upd
  have hp3 := upd_same (H := H2) (a := p) (o := .ins CR dx (putF "_steps" (.ref sp) (putF "_expression" v [])))
  have S3 := S.but hp2 (by rw [lookup_putF, if_neg (by decide +kernel)]; rfl) b3
  revert b3 hp3 S3
  generalize upd H2 p (.ins CR dx (putF "_steps" (.ref sp) (putF "_expression" v []))) = H3
  intro b3 hp3 S3
  have B3 := b1.trans ((ButP.same s2).trans b3)
  refine ⟨by show 0 ≤ sizeLine; decide, fun jL hjL => ?_⟩
  have s4 := same_upd (o := .lst []) hjL
  have hj4 := upd_same (H := H3) (a := jL) (o := .lst [])
  have hjp : jL ≠ p := (ne_of_none hp3 hjL).symm
  revert s4 hj4
  generalize upd H3 jL (.lst []) = H4
  intro s4 hj4
  have L3 := putF_len "_journal" (.ref jL) (putF "_steps" (.ref sp) (putF "_expression" v ([] : List (Str × V))))
  have hp4 := s4 _ _ hp3
  refine ⟨_, rfl, p, CR, dx, _, rfl, hp4, TR.cl, TR.a3, (by omega), ?_⟩
  have b5 : ButP p H4 (upd H4 p (.ins CR dx (putF "_journal" (.ref jL) (putF "_steps" (.ref sp) (putF "_expression" v []))))) := ButP.upd
  have hp5 := upd_same (H := H4) (a := p) (o := .ins CR dx (putF "_journal" (.ref jL) (putF "_steps" (.ref sp) (putF "_expression" v []))))
  have S5 := (S3.same s4).but hp4 (by rw [lookup_putF, if_neg (by decide +kernel), lookup_putF, if_neg (by decide +kernel)]; rfl) b5
  have hj5 := b5 _ _ hj4 hjp
  revert b5 hp5 S5 hj5
  generalize upd H4 p (.ins CR dx (putF "_journal" (.ref jL) (putF "_steps" (.ref sp) (putF "_expression" v [])))) = H5
  intro b5 hp5 S5 hj5
  refine ⟨by show 0 ≤ sizeLine; decide, fun t ht => ⟨by show 1 ≤ sizeLine; decide, fun rL hrL => ?_⟩⟩
  have s6 := same_upd (o := .tup []) ht
  have ht6 := upd_same (H := H5) (a := t) (o := .tup [])
  have s7 := same_upd (o := .lst [V.ref t]) hrL
  have hr7 := upd_same (H := upd H5 t (.tup [])) (a := rL) (o := .lst [V.ref t])
  have ht7 := s7 _ _ ht6
  have S7 := s6.trans s7
  have hrp : rL ≠ p := (ne_of_none (s6 _ _ hp5) hrL).symm
  have htp : t ≠ p := (ne_of_none hp5 ht).symm
  revert S7 hr7 ht7
  generalize upd (upd H5 t (.tup [])) rL (.lst [V.ref t]) = H7
  intro hr7 ht7 S7
  have hp7 := S7 _ _ hp5
  have L4 := putF_len "_reads" (.ref rL) (putF "_journal" (.ref jL) (putF "_steps" (.ref sp) (putF "_expression" v ([] : List (Str × V)))))
  refine ⟨_, rfl, p, CR, dx, _, rfl, hp7, TR.cl, TR.a4, (by omega), ?_⟩
  have b8 : ButP p H7 (upd H7 p (.ins CR dx (rdF v (.ref sp) (.ref jL) (.ref rL)))) := ButP.upd
  have of : ∀ {b : Addr} {H' : Hp}, ButP p H H' → H p = some (.ins CR dx []) → (∃ z, H' p = some z) → H' b = none → H b = none := fun {b H'} k hp hz hb => by
    cases hc : H b with
    | none => rfl
    | some u =>
      by_cases e0 : b = p
      · obtain ⟨z, hz⟩ := hz
        rw [e0, hz] at hb
        cases hb
      · rw [k _ _ hc e0] at hb
        cases hb
  have hjn := of B3 hp ⟨_, hp3⟩ hjL
  have hrn := of (B3.trans ((ButP.same s4).trans (b5.trans (ButP.same s6)))) hp ⟨_, s6 _ _ hp5⟩ hrL
  have hso : ∀ {H'} , StepsO CS H' sp o e → ∃ u, H' o = some u := fun h => by
    obtain ⟨ts, h, _⟩ := h.lo
    exact ⟨_, h⟩
  obtain ⟨u3, hu3⟩ := hso S3
  obtain ⟨u5, hu5⟩ := hso (S5.same s6)
  refine q hc _ o jL rL (B3.trans ((ButP.same s4).trans (b5.trans ((ButP.same S7).trans b8)))) hjn hrn ⟨⟨dx, sp, [V.ref t], upd_same, ?_, b8 _ _ (S7 _ _ hj5) hjp, b8 _ _ hr7 hrp, .cons ⟨t, rfl, b8 _ _ ht7 htp⟩ .nil⟩, ne_of_none (s6 _ _ hj5) hrL, ne_of_none hu3 hjL, ne_of_none hu5 hrL⟩
  exact (S5.same S7).but hp7 (by rw [lookup_putF, if_neg (by decide +kernel), lookup_putF, if_neg (by decide +kernel), lookup_putF, if_neg (by decide +kernel)]; rfl) b8
abbrev N_Reader_journal : List Str := ["self"]
theorem sc_Reader_journal : FnScope ["self"] ["self"] (defScope s_Reader_journal) := ⟨rfl, rfl, rfl, by decide +kernel, rfl, by decide +kernel, by decide +kernel⟩
theorem ok_journal {CR CS f : Addr} {fd : FuncData} (TR : RdTxt K CR) (B : Bt K mg a_BOUNDS a_LONG_BOUNDS tL tM) (Dm : DfM K CR "journal" "Reader.journal" s_Reader_journal ["self"] f fd) : FnOk P w K mg base CX0 1 f fd ["self"] (spJournal CR CS) := by
  refine Dm.F.ok sc_Reader_journal (fun vs H Q Ex h => ?_) (fun cdv A outer s H vs Q Ex hr h => ?_)
  · obtain ⟨p, o, jL, rL, v, e, js, pss, rfl, _⟩ := h
    rfl
  obtain ⟨p, o, jL, rL, v, e, js, pss, rfl, hR, hl, q⟩ := h
  refine ⟨_, (pss_one (ps_ret (pe_callTy call_tuple_of rfl B.b_tuple boot_tuple (pa_cons (pe_fld (pv 0) rfl) pa_nil)))), ?_⟩
  obtain ⟨dx, sp, rs, h1, h2, h3, h4, h5⟩ := hR.ex
  exact ⟨_, rfl, p, CR, dx, _, _, rfl, h1, TR.cl, TR.a3, rdF_journal .., jL, js, rfl, .inl ⟨SqL.of h3, fun l hl => q l _ (same_upd hl) upd_same⟩⟩
end
end My
namespace My
open PySem PySem.Spec PyProof.Rows L2
/-! ### what is near, what is behind a command -/
abbrev Cmd := Option Nat
def cmdV : Cmd → List V
  | none => [.str "back"]
  | some c => [.str "read", .str ⟨#[c]⟩]
def cmdOk : Cmd → Prop
  | none => True
  | some c => 97 ≤ c ∧ c ≤ 100
/-- the point behind places: 0 at the beginning -/
def stT (ps : List Nat) : Nat := match ps.getLast? with | none => 0 | some j => j + 1
def nextT (e : E) (t c : Nat) : Option Nat := (nearT e t).find? fun j => ltrAt e j == c
def actT (e : E) (ps : List Nat) : Cmd → Option (List Nat)
  | none => if ps = [] then none else some ps.dropLast
  | some c => (nextT e (stT ps) c).map fun j => ps ++ [j]
theorem atV_last {xs : List V} {x : V} : atI (xs ++ [x]) (-1) = some x := by
  have e : ixN (xs ++ [x]).length (-1) = some ((xs ++ [x]).length - 1) := by
    unfold ixN
    have h0 : 1 ≤ (xs ++ [x]).length := by rw [List.length_append]; exact Nat.le_add_left 1 _
    have h1 : ¬ (0 : Int) ≤ -1 := by omega
    rw [if_neg h1]
    have h2 : -((xs ++ [x]).length : Int) ≤ -1 := by omega
    rw [if_pos h2]
    congr 1
    omega
  unfold atI
  rw [e]
  show (xs ++ [x])[(xs ++ [x]).length - 1]? = some x
  rw [List.length_append]
  simp
theorem atP_last {xs : List Nat} {x : Nat} : atI (natsV (xs ++ [x])) (-1) = some (.int (x : Int)) := by
  rw [← natsV_app]
  exact atV_last
theorem stT_snoc (ps : List Nat) (j : Nat) : stT (ps ++ [j]) = j + 1 := by
  unfold stT
  rw [List.getLast?_concat]
theorem natsV_none {ps : List Nat} (h : natsV ps = []) : ps = [] := List.map_eq_nil_iff.mp h
theorem snoc_of {α : Type} {xs : List α} (h : xs ≠ []) : ∃ ys y, xs = ys ++ [y] := ⟨xs.dropLast, xs.getLast h, (List.dropLast_concat_getLast h).symm⟩
theorem sIx_0 (n : Nat) : HT.sIx n 0 none = 0 := rfl
theorem cut_last {xs : List V} {x : V} : cutV (xs ++ [x]) none (some (-1)) = xs ∧ ¬ (HT.sIx (xs ++ [x]).length 0 none = 0 ∧ HT.sIx (xs ++ [x]).length (xs ++ [x]).length (some (-1)) = (xs ++ [x]).length) := by
  have e : HT.sIx (xs ++ [x]).length (xs ++ [x]).length (some (-1)) = xs.length := by
    show (if (-1 : Int) < 0 then ((-1 : Int) + ((xs ++ [x]).length : Int)).toNat else min (-1 : Int).toNat (xs ++ [x]).length) = _
    rw [if_pos (by omega), List.length_append]
    show ((-1 : Int) + ((xs.length + 1 : Nat) : Int)).toNat = _
    omega
  constructor
  · unfold cutV
    rw [e, sIx_0, Nat.sub_zero, List.drop_zero, List.take_left]
  · rw [e]
    intro h
    have := h.2
    rw [List.length_append] at this
    have h3 : xs.length = xs.length + 1 := this
    omega
def spIsCmd : Sp := fun vs H Q _ => ∃ (q : Addr) (c : Cmd), vs = [.ref q] ∧ cmdOk c ∧ H q = some (.tup (cmdV c)) ∧ Q (.bl true) H
def spNearP (C : Addr) : Sp := fun vs H Q _ => ∃ (p r : Addr) (e : E) (ps : List Nat), vs = [.ref p, .ref r] ∧ StepsAt C H p e ∧ H r = some (.tup (natsV ps)) ∧ (∀ x ∈ ps, x < e.places) ∧ ∀ q, H q = some (.tup (natsV (nearT e (stT ps)))) → Q (.ref q) H
def spPlaceOf (C : Addr) : Sp := fun vs H Q _ => ∃ (p r : Addr) (e : E) (ps : List Nat) (c : Nat), vs = [.ref p, .ref r, .str ⟨#[c]⟩] ∧ StepsAt C H p e ∧ e.places ≤ 40 ∧ H r = some (.tup (natsV ps)) ∧ (∀ x ∈ ps, x < e.places) ∧ Q (match nextT e (stT ps) c with | none => .non | some j => .int (j : Int)) H
def spPbc (C : Addr) : Sp := fun vs H Q _ => ∃ (p r q : Addr) (e : E) (ps : List Nat) (c : Cmd), vs = [.ref p, .ref r, .ref q] ∧ StepsAt C H p e ∧ e.places ≤ 40 ∧ H r = some (.tup (natsV ps)) ∧ (∀ x ∈ ps, x < e.places) ∧ ps.length ≤ 1000 ∧ H q = some (.tup (cmdV c)) ∧ (actT e ps c = none → ∀ H', Same H H' → Q .non H') ∧ ∀ ps', actT e ps c = some ps' → ∀ x H', Same H H' → H' x = some (.tup (natsV ps')) → Q (.ref x) H'
theorem find_take {α : Type} {f : α → Bool} {xs : List α} {i : Nat} {x : α} (h : ∀ y ∈ xs.take i, f y = false) (hx : xs[i]? = some x) (hf : f x = true) : xs.find? f = some x := by
  have hl := (List.getElem?_eq_some_iff.mp hx).1
  have e : xs = xs.take i ++ x :: xs.drop (i + 1) := by
    have h2 := (List.getElem?_eq_some_iff.mp hx).2
    rw [← h2, List.getElem_cons_drop hl, List.take_append_drop]
  rw [e, List.find?_append, List.find?_eq_none.mpr fun y hy => by rw [h y hy]; exact Bool.false_ne_true, List.find?_cons_of_pos hf]
  rfl
theorem str_one (a b : Nat) : decide (V.str (⟨#[a]⟩ : Str) = V.str (⟨#[b]⟩ : Str)) = (a == b) := by
  rw [Bool.eq_iff_iff, decide_eq_true_eq, beq_iff_eq]
  constructor
  · intro h
    have h := V.str.inj h
    have h := congrArg (fun s : Str => s.cps.toList) h
    exact (List.cons.inj h).1
  · intro h
    rw [h]
section
variable {P : Program} {w : World} {K : PySem.W.Frag} {mg : Str → Option Value} {base : Heap} {a_BOUNDS a_LONG_BOUNDS : Addr} {tL tM : Tok} {CN fI : Addr}
abbrev N_is_command : List Str := ["value"]
theorem sc_is_command : FnScope ["value"] ["value"] (defScope s_is_command) := ⟨rfl, rfl, rfl, by decide +kernel, rfl, by decide +kernel, by decide +kernel⟩
theorem ok_iscmd {f : Addr} {fd : FuncData} (B : Bt K mg a_BOUNDS a_LONG_BOUNDS tL tM) (Dd : Df K mg "is_command" s_is_command ["value"] f fd) (Gis_letter : Cl P w K mg base 1 "is_letter" ["value"] spLetter) : FnOk P w K mg base CX0 2 f fd ["value"] spIsCmd := by
  refine Dd.F.ok sc_is_command (fun vs H Q Ex h => ?_) (fun cdv A outer s H vs Q Ex hr h => ?_)
  · obtain ⟨q0, c, rfl, _⟩ := h
    rfl
  obtain ⟨q0, c, rfl, hc, hq, q⟩ := h
  refine ⟨_, (pss_cons (ps_if (PW.pt (pw_or (pt_not (pt_val (pe_callB call_isi rfl B.b_isinstance boot_isinstance (pa_cons (pv 0) (pa_cons (pe_bltn (v := .ty "tuple") rfl B.b_tuple boot_tuple rfl) pa_nil))))) (pw_or1 (pt_cmpR op_eq (pe_callB (r := rLenOf K) call_lenK rfl B.b_len boot_len (pa_cons (pv 0) pa_nil)) pe_int (nomark _))))) (pss_one (ps_ret pe_bl)) pss_nil)
    (pss_cons (ps_if (pt_cmpR op_eq (pe_ix (r := rIxT K) ix_tup (pv 0) pe_int (fun _ _ => rfl)) pe_str (nomark _)) (pss_one (ps_ret (pe_and (pe_cmpR op_eq (pe_callB (r := rLenOf K) call_lenK rfl B.b_len boot_len (pa_cons (pv 0) pa_nil)) pe_int (nomark _)) (pe_one (pe_cl Gis_letter (hr.mono (by omega)) rfl (pa_cons (pe_ix (r := rIxT K) ix_tup (pv 0) pe_int (fun _ _ => rfl)) pa_nil)))))) pss_nil)
    (pss_one (ps_ret (pe_and (pe_cmpR op_eq (pe_ix (r := rIxT K) ix_tup (pv 0) pe_int (fun _ _ => rfl)) pe_str (nomark _)) (pe_one (pe_cmpR op_eq (pe_callB (r := rLenOf K) call_lenK rfl B.b_len boot_len (pa_cons (pv 0) pa_nil)) pe_int (nomark _)))))))), ?_⟩
  have T : TyX K H (.ref q0) (.type "tuple") := .base (.tup hq)
  refine ⟨_, rfl, _, _, _, _, _, rfl, .ty _, T, kit_ty (r := true) (by decide +kernel), _, rfl, iteF ?_⟩
  cases c with
  | none =>
    refine ⟨_, rfl, _, 1, rfl, .inr ⟨_, SqT.of hq, rfl⟩, rfl, _, rfl, iteF ?_⟩
    refine ⟨_, rfl, q0, _, 0, _, rfl, rfl, SqT.of hq, at_zero, rfl, _, rfl, iteF ?_⟩
    exact ⟨_, rfl, q0, _, 0, _, rfl, rfl, SqT.of hq, at_zero, rfl, true, rfl, _, rfl, _, 1, rfl, .inr ⟨_, SqT.of hq, rfl⟩, rfl, q⟩
  | some c =>
    refine ⟨_, rfl, _, 2, rfl, .inr ⟨_, SqT.of hq, rfl⟩, rfl, _, rfl, iteF ?_⟩
    refine ⟨_, rfl, q0, _, 0, _, rfl, rfl, SqT.of hq, at_zero, rfl, _, rfl, iteT ?_⟩
    refine ⟨_, rfl, _, 2, rfl, .inr ⟨_, SqT.of hq, rfl⟩, rfl, true, rfl, iteT ?_⟩
    refine ⟨_, rfl, q0, _, 1, _, rfl, rfl, SqT.of hq, at_one, _, rfl, by show 1 ≤ 1000; decide, ?_⟩
    have : isLet ⟨#[c]⟩ = true := by
      show (decide (97 ≤ c) && decide (c ≤ 100)) = true
      rw [decide_eq_true hc.1, decide_eq_true hc.2]
      rfl
    rw [this]
    exact q
abbrev N_near_places : List Str := ["steps", "read"]
theorem sc_near_places : FnScope ["steps", "read"] ["steps", "read"] (defScope s_near_places) := ⟨rfl, rfl, rfl, by decide +kernel, rfl, by decide +kernel, by decide +kernel⟩
theorem ok_nearP {C f : Addr} {fd : FuncData} (T : StTxt K C) (B : Bt K mg a_BOUNDS a_LONG_BOUNDS tL tM) (Dd : Df K mg "near_places" s_near_places ["steps", "read"] f fd) : FnOk P w K mg base CX0 1 f fd ["steps", "read"] (spNearP C) := by
  refine Dd.F.ok sc_near_places (fun vs H Q Ex h => ?_) (fun cdv A outer s H vs Q Ex hr h => ?_)
  · obtain ⟨p, r, e, ps, rfl, _⟩ := h
    rfl
  obtain ⟨p, r, e, ps, rfl, hS, hr0, hps, q⟩ := h
  refine ⟨_, (pss_one (ps_ret (pe_ifExp (pt_truth (pv 1) (by intro _; rfl)) (pe_ix (r := rIxL K) ix_list (pe_fld (pv 0) rfl) (pe_ix (r := rIxT K) ix_tup (pv 1) (pe_un un_neg pe_int) (fun _ _ => rfl)) (fun _ _ => rfl)) (pe_fld (pv 0) rfl)))), ?_⟩
  obtain ⟨dx, f0, l0, o, z, ts, h1, h2, h3, h4, h5, h6, h7⟩ := hS.ex
  by_cases c : ps = []
  · refine ⟨_, rfl, false, .inr (.inl ⟨_, SqT.of hr0, by rw [c]; rfl⟩), iteF ?_⟩
    subst c
    exact ⟨_, rfl, p, C, dx, _, _, rfl, h1, T.cl, T.a3, stF_first .., q _ h3⟩
  · obtain ⟨ys, y, rfl⟩ := snoc_of c
    refine ⟨_, rfl, true, .inr (.inl ⟨_, SqT.of hr0, by rw [← natsV_app]; cases natsV ys <;> rfl⟩), iteT ?_⟩
    have hy := hps y (List.mem_append.mpr (.inr (List.mem_singleton.mpr rfl)))
    obtain ⟨q1, e1, e2⟩ := h7 y _ (List.getElem?_eq_getElem (by omega))
    refine ⟨_, rfl, p, C, dx, _, _, rfl, h1, T.cl, T.a5, stF_following .., _, rfl, _, rfl, r, _, -1, _, rfl, rfl, SqT.of hr0, atP_last, o, ts, (y : Int), ts[y]'(by omega), rfl, rfl, SqL.of h5, at_of (j := y) rfl (List.getElem?_eq_getElem (by omega)), ?_⟩
    rw [e1]
    refine q q1 ?_
    rw [stT_snoc]
    exact e2
abbrev N__place_of : List Str := ["steps", "read", "letter", "place"]
theorem sc__place_of : FnScope ["steps", "read", "letter", "place"] ["steps", "read", "letter"] (defScope s__place_of) := ⟨rfl, rfl, rfl, by decide +kernel, rfl, by decide +kernel, by decide +kernel⟩
theorem ok_placeof {C f : Addr} {fd : FuncData} (T : StTxt K C) (B : Bt K mg a_BOUNDS a_LONG_BOUNDS tL tM) (Dd : Df K mg "_place_of" s__place_of ["steps", "read", "letter"] f fd) (Gnear_places : Cl P w K mg base 1 "near_places" ["steps", "read"] (spNearP C)) : FnOk P w K mg base CX0 2 f fd ["steps", "read", "letter"] (spPlaceOf C) := by
  refine Dd.F.ok sc__place_of (fun vs H Q Ex h => ?_) (fun cdv A outer s H vs Q Ex hr h => ?_)
  · obtain ⟨p, r, e, ps, c, rfl, _⟩ := h
    rfl
  obtain ⟨p, r, e, ps, c, rfl, hS, h40, hr0, hps, q⟩ := h
  refine ⟨_, (pss_cons (ps_for PassesOwn.never rfl (pi_tup (pe_cl Gnear_places (hr.mono (by omega)) rfl (pa_cons (pv 0) (pa_cons (pv 1) pa_nil)))) (pg_name (i := 3) sc__place_of.nd rfl (Or.inl rfl)) (pss_one (ps_if (pt_cmpR op_eq (pe_ix ix_str (pe_fld (pv 0) rfl) (pv 3) (fun _ _ => rfl)) (pv 2) (nomark _)) (pss_one (ps_ret (pv 3))) pss_nil)))
    (pss_one (ps_ret pe_non))), ?_⟩
  obtain ⟨dx, f0, l0, o, z, ts, h1, h2, h3, h4, h5, h6, h7⟩ := hS.ex
  refine ⟨_, rfl, _, rfl, p, r, e, ps, rfl, hS, hr0, hps, fun n hn => ⟨n, rfl, ⟨_, SqT.of hn⟩, for_tup (K := K) (a := n) (xs := natsV (nearT e (stT ps))) (fun m σ' H' => H' = H ∧ (∃ o3, σ' = [some (.ref p), some (.ref r), some (.str ⟨#[c]⟩), o3]) ∧ ∀ j ∈ (nearT e (stT ps)).take m, (ltrAt e j == c) = false) ?_ ?_ ?_ ?_⟩⟩
  · exact ⟨rfl, ⟨none, rfl⟩, fun j hj => by cases hj⟩
  · rintro m σ' H' _ ⟨rfl, _⟩
    exact SqT.of hn
  · rintro m v σ' H' hv ⟨rfl, ⟨o3, rfl⟩, hno⟩
    obtain ⟨j, hj, rfl⟩ := natsV_get hv
    have hjp := nearT_lt e _ j (List.mem_of_getElem? hj)
    have hat : atI z.cps.toList (j : Int) = some (ltrAt e j) := by rw [h2]; exact atI_nat (ltr_get hjp)
    have hzl : z.length ≤ sizeLine := by
      rw [← len_toL, h2, letters_len]
      exact Nat.le_trans h40 (by decide)
    refine ⟨_, rfl, p, C, dx, _, _, rfl, h1, T.cl, T.a1, stF_letters .., _, rfl, z, (j : Int), ltrAt e j, rfl, rfl, hzl, hat, _, rfl, rfl, _, rfl, ?_⟩
    rw [str_one]
    cases hc : (ltrAt e j == c) with
    | true =>
      refine iteT ⟨_, rfl, ?_⟩
      have := find_take (f := fun j => ltrAt e j == c) hno hj hc
      unfold nextT at q
      rw [this] at q
      exact q
    | false =>
      refine iteF ⟨rfl, ⟨_, rfl⟩, fun k hk => ?_⟩
      rw [take_snoc hj] at hk
      rcases List.mem_append.mp hk with hk | hk
      · exact hno k hk
      · rw [List.mem_singleton.mp hk]
        exact hc
  · rintro σ' H' ⟨rfl, ⟨o3, rfl⟩, hno⟩
    rw [natsV_len, List.take_length] at hno
    have : nextT e (stT ps) c = none := List.find?_eq_none.mpr fun j hj => by rw [hno j hj]; exact Bool.false_ne_true
    rw [this] at q
    exact q
abbrev N_places_behind_command : List Str := ["steps", "read", "command", "place"]
theorem sc_places_behind_command : FnScope ["steps", "read", "command", "place"] ["steps", "read", "command"] (defScope s_places_behind_command) := ⟨rfl, rfl, rfl, by decide +kernel, rfl, by decide +kernel, by decide +kernel⟩
theorem ok_pbc {C f : Addr} {fd : FuncData} (T : StTxt K C) (B : Bt K mg a_BOUNDS a_LONG_BOUNDS tL tM) (Dd : Df K mg "places_behind_command" s_places_behind_command ["steps", "read", "command"] f fd) (G_place_of : Cl P w K mg base 2 "_place_of" ["steps", "read", "letter"] (spPlaceOf C)) : FnOk P w K mg base CX0 3 f fd ["steps", "read", "command"] (spPbc C) := by
  refine Dd.F.ok sc_places_behind_command (fun vs H Q Ex h => ?_) (fun cdv A outer s H vs Q Ex hr h => ?_)
  · obtain ⟨p, r, q0, e, ps, c, rfl, _⟩ := h
    rfl
  obtain ⟨p, r, q0, e, ps, c, rfl, hS, h40, hr0, hps, hpl, hq0, qn, qs⟩ := h
  refine ⟨_, (pss_cons (ps_if (pt_cmpR op_eq (pe_ix (r := rIxT K) ix_tup (pv 2) pe_int (fun _ _ => rfl)) pe_str (nomark _)) (pss_one (ps_ret (pe_ifExp (pt_truth (pv 1) (by intro _; rfl)) (pe_slice sl_tupA (pv 1) po_none (po_some (pe_un un_neg pe_int))) pe_non))) pss_nil)
    (pss_cons (ps_set (i := 3) sc_places_behind_command.nd rfl (Or.inl rfl) (pe_cl G_place_of (hr.mono (by omega)) rfl (pa_cons (pv 0) (pa_cons (pv 1) (pa_cons (pe_ix (r := rIxT K) ix_tup (pv 2) pe_int (fun _ _ => rfl)) pa_nil)))))
    (pss_one (ps_ret (pe_ifExp (pt_cmpR op_isN (pv 3) pe_non (nomark _)) pe_non (pe_op op_catA (pv 1) (pe_tup (pa_cons (pv 3) pa_nil)))))))), ?_⟩
  cases c with
  | none =>
    refine ⟨_, rfl, q0, _, 0, _, rfl, rfl, SqT.of hq0, at_zero, rfl, _, rfl, iteT ?_⟩
    by_cases c : ps = []
    · refine ⟨_, rfl, false, .inr (.inl ⟨_, SqT.of hr0, by rw [c]; rfl⟩), iteF ?_⟩
      exact qn (by unfold actT; rw [if_pos c]) H (Same.refl H)
    · have hs := qs ps.dropLast (by unfold actT; rw [if_neg c])
      obtain ⟨ys, y, rfl⟩ := snoc_of c
      rw [List.dropLast_concat] at hs
      refine ⟨_, rfl, true, .inr (.inl ⟨_, SqT.of hr0, by rw [← natsV_app]; cases natsV ys <;> rfl⟩), iteT ?_⟩
      rw [← natsV_app] at hr0
      exact ⟨_, rfl, _, rfl, _, rfl, r, _, rfl, SqT.of hr0, fun c => absurd c cut_last.2, fun _ x hx => hs x _ (same_upd hx) (by rw [upd_same]; exact congrArg (fun z => some (HO.tup z)) cut_last.1)⟩
  | some c =>
    refine ⟨_, rfl, q0, _, 0, _, rfl, rfl, SqT.of hq0, at_zero, rfl, _, rfl, iteF ?_⟩
    refine ⟨_, rfl, _, rfl, _, rfl, q0, _, 1, _, rfl, rfl, SqT.of hq0, at_one, p, r, e, ps, c, rfl, hS, h40, hr0, hps, ?_⟩
    have qn : nextT e (stT ps) c = none → ∀ H', Same H H' → Q .non H' := fun h => qn (by show (nextT e (stT ps) c).map _ = none; rw [h]; rfl)
    have qs : ∀ j, nextT e (stT ps) c = some j → ∀ x H', Same H H' → H' x = some (.tup (natsV (ps ++ [j]))) → Q (.ref x) H' := fun j h => qs _ (by show (nextT e (stT ps) c).map _ = _; rw [h]; rfl)
    cases hn : nextT e (stT ps) c with
    | none => exact ⟨_, rfl, rfl, _, rfl, iteT (qn hn H (Same.refl H))⟩
    | some j =>
      refine ⟨_, rfl, rfl, _, rfl, iteF ?_⟩
      refine ⟨_, rfl, _, rfl, by show 1 ≤ sizeLine; decide, fun t ht => ?_⟩
      have s1 := same_upd (o := .tup [V.int (j : Int)]) ht
      refine ⟨r, t, _, _, rfl, rfl, SqT.of (s1 _ _ hr0), SqT.of upd_same, ?_, fun c => ?_, fun _ c => absurd c (by simp), fun _ _ x hx => ?_⟩
      · rw [natsV_len]
        exact Nat.le_trans (m := 1001) (by show ps.length + 1 ≤ 1001; omega) (by decide)
      · refine qs j hn t _ s1 ?_
        rw [upd_same, natsV_none c]
        rfl
      · refine qs j hn x _ (s1.trans (same_upd hx)) ?_
        rw [upd_same, ← natsV_app]
        rfl
end
end My
namespace My
open PySem PySem.Spec PyProof.Rows L2
/-! ### readers that act -/
theorem rdF_steps (v s j r : V) : (rdF v s j r).lookup ("_steps" : Str) = some s := by
  unfold rdF
  rw [lookup_putF, if_neg (by decide +kernel), lookup_putF, if_neg (by decide +kernel), lookup_putF, if_pos rfl]
theorem rdF_reads (v s j r : V) : (rdF v s j r).lookup ("_reads" : Str) = some r := by
  unfold rdF
  rw [lookup_putF, if_pos rfl]
theorem rdF_expr (v s j r : V) : (rdF v s j r).lookup ("_expression" : Str) = some v := by
  unfold rdF
  rw [lookup_putF, if_neg (by decide +kernel), lookup_putF, if_neg (by decide +kernel), lookup_putF, if_neg (by decide +kernel), lookup_putF, if_pos rfl]
theorem two_last {α β : Type} {R : α → β → Prop} {xs : List α} {ys : List β} {y : β} (h : Two R xs (ys ++ [y])) : ∃ zs x, xs = zs ++ [x] ∧ Two R zs ys ∧ R x y := by
  have hl := h.len
  rw [List.length_append] at hl
  have hne : xs ≠ [] := fun c => by
    rw [c] at hl
    exact absurd hl (Nat.ne_of_lt (Nat.lt_of_lt_of_le (by decide : (0:Nat) < 1) (Nat.le_add_left 1 _)))
  obtain ⟨zs, x, rfl⟩ := snoc_of hne
  rw [List.length_append] at hl
  have hz : zs.length = ys.length := Nat.add_right_cancel hl
  refine ⟨zs, x, rfl, ?_, ?_⟩
  · have : ∀ {zs : List α} {ys : List β} {x : α} {y : β}, zs.length = ys.length → Two R (zs ++ [x]) (ys ++ [y]) → Two R zs ys := by
      intro zs
      induction zs with
      | nil =>
        intro ys x y hl _
        cases ys with
        | nil => exact .nil
        | cons _ _ => cases hl
      | cons a zs ih =>
        intro ys x y hl h
        cases ys with
        | nil => cases hl
        | cons b ys =>
          cases h with
          | cons h1 h2 => exact .cons h1 (ih (Nat.succ.inj hl) h2)
    exact this hz h
  · have : ∀ {zs : List α} {ys : List β} {x : α} {y : β}, zs.length = ys.length → Two R (zs ++ [x]) (ys ++ [y]) → R x y := by
      intro zs
      induction zs with
      | nil =>
        intro ys x y hl h
        cases ys with
        | nil =>
          cases h with
          | cons h1 _ => exact h1
        | cons _ _ => cases hl
      | cons a zs ih =>
        intro ys x y hl h
        cases ys with
        | nil => cases hl
        | cons b ys =>
          cases h with
          | cons h1 h2 => exact ih (Nat.succ.inj hl) h2
    exact this hz h
theorem sing_flat (f : Nat → Nat) : ∀ ps : List Nat, (ps.map fun j => [f j]).flatten = ps.map f
  | [] => rfl
  | j :: ps => by
    rw [List.map_cons, List.flatten_cons, List.map_cons, sing_flat f ps]
    rfl
theorem ones_sum (f : Nat → Str) (h : ∀ j, (f j).length = 1) : ∀ ps : List Nat, ((ps.map f).map fun z : Str => z.length).sum = ps.length
  | [] => rfl
  | j :: ps => by
    rw [List.map_cons, List.map_cons, List.sum_cons, ones_sum f h ps, h, List.length_cons, Nat.add_comm]
def whyC : Cmd → Str
  | none => "begin"
  | some _ => "letter"
def PlsOk (e : E) (ps : List Nat) : Prop := (∀ x ∈ ps, x < e.places) ∧ ps.length ≤ 1000
def spAct (CR CS CN : Addr) : Sp := fun vs H Q Ex => ∃ (p o jL rL q : Addr) (v : V) (e : E) (js : List V) (pss : List (List Nat)) (ps : List Nat) (c : Cmd), vs = [.ref p, .ref q] ∧ RdS CR CS H p o jL rL v e js (pss ++ [ps]) ∧ e.places ≤ 40 ∧ PlsOk e ps ∧ js.length < 20 ∧ pss.length ≤ 1000 ∧ cmdOk c ∧ H q = some (.tup (cmdV c)) ∧
  (actT e ps c = none → XpN CN H Ex (whyC c)) ∧
  ∀ ps', actT e ps c = some ps' → ∀ H', KeepR jL rL H H' → RdS CR CS H' p o jL rL v e (js ++ [.ref q]) (pss ++ [ps] ++ [ps']) → Q (.int ((js.length + 1 : Nat) : Int)) H'
theorem fn_calm {P : Program} {w : World} {K : PySem.W.Frag} {mg : Str → Option Value} {base : Heap} {k : Nat} {f : Addr} {fd : FuncData} {ps : List Str} {sp sp' : Sp} (F : FnOk P w K mg base (L2.CX P w) k f fd ps sp) (h : ∀ vs H Q E, sp' vs H Q E → sp vs H Q fun _ _ _ => False) : FnOk P w K mg base CX0 k f fd ps sp' :=
  ⟨fun vs H Q E q => F.len _ _ _ _ (h _ _ _ _ q), fun A outer s H args us vs Q E hr he hb hv hs => codeAny_mono (F.run A outer s H args us vs Q (fun _ _ _ => False) hr he hb hv (h _ _ _ _ hs)) fun r s' h => by
    cases r with
    | ok x => cases x <;> exact h
    | error e =>
      obtain ⟨_, _, _, _, _, _, _, _, _, _, _, _, h⟩ := h
      exact h.elim⟩
def spRdInit (CR CS : Addr) : Sp := fun vs H Q _ => ∃ (p dx : Addr) (v : V) (e : E), vs = [.ref p, v] ∧ H p = some (.ins CR dx []) ∧ Esh e ∧ Rep H v e.toD ∧ confB e = false ∧ ∀ H' (o jL rL : Addr), ButP p H H' → H jL = none → H rL = none → RdS CR CS H' p o jL rL v e [] [[]] → Q .non H'
def spWordR (CR CS : Addr) : Sp := fun vs H Q _ => ∃ (p o jL rL : Addr) (v : V) (e : E) (js : List V) (pss : List (List Nat)) (ps : List Nat), vs = [.ref p] ∧ RdS CR CS H p o jL rL v e js (pss ++ [ps]) ∧ e.places ≤ 40 ∧ PlsOk e ps ∧ ∀ (z : Str) H', Same H H' → z.cps.toList = ps.map (ltrAt e) → Q (.str z) H'
def spPlsR (CR CS : Addr) : Sp := fun vs H Q _ => ∃ (p o jL rL : Addr) (v : V) (e : E) (js : List V) (pss : List (List Nat)) (ps : List Nat), vs = [.ref p] ∧ RdS CR CS H p o jL rL v e js (pss ++ [ps]) ∧ ∀ r, H r = some (.tup (natsV ps)) → Q (.ref r) H
section
variable {P : Program} {w : World} {K : PySem.W.Frag} {mg : Str → Option Value} {base : Heap} {a_BOUNDS a_LONG_BOUNDS : Addr} {tL tM : Tok} {CN fI : Addr}
theorem ok_readerinit {CR CS f : Addr} {fd : FuncData} (F : Fun K "__init__" "Reader.__init__" s_Reader___init__ f fd) (TR : RdTxt K CR) (Gsure_steps_of : ClX P w K mg base 88 "sure_steps_of" ["expression"] (spSureX CS CN)) : FnOk P w K mg base CX0 89 f fd ["self", "expression"] (spRdInit CR CS) :=
  fn_calm (init_rdX F TR Gsure_steps_of) fun vs H Q E ⟨p, dx, v, e, h1, h2, h3, h4, h5, h6⟩ => ⟨p, dx, v, e, h1, h2, h3, h4, fun _ => h6, fun h => by rw [h5] at h; cases h⟩
abbrev N_Reader_act : List Str := ["self", "command", "read"]
theorem sc_Reader_act : FnScope ["self", "command", "read"] ["self", "command"] (defScope s_Reader_act) := ⟨rfl, rfl, rfl, by decide +kernel, rfl, by decide +kernel, by decide +kernel⟩
theorem ok_act {CR CS f : Addr} {fd : FuncData} (TR : RdTxt K CR) (B : Bt K mg a_BOUNDS a_LONG_BOUNDS tL tM) (Dm : DfM K CR "act" "Reader.act" s_Reader_act ["self", "command"] f fd) (TNotPossible : ExNotPossible.Txt K mg CN fI) (PNotPossible : ExNotPossible.Prg P) (Gis_command : Cl P w K mg base 2 "is_command" ["value"] spIsCmd) (Gplaces_behind_command : Cl P w K mg base 3 "places_behind_command" ["steps", "read", "command"] (spPbc CS)) : FnOk P w K mg base (L2.CX P w) 4 f fd ["self", "command"] (spAct CR CS CN) := by
  refine Dm.F.okX sc_Reader_act (fun vs H Q Ex h => ?_) (fun cdv A outer s H vs Q Ex hr h => ?_)
  · obtain ⟨p, o, jL, rL, q0, v, e, js, pss, ps, c, rfl, _⟩ := h
    rfl
  obtain ⟨p, o, jL, rL, q0, v, e, js, pss, ps, c, rfl, hS, h40, hP, hj, hpl, hc, hq, qx, qo⟩ := h
  refine ⟨_, (pss_cons (ps_if (pt_not (pt_val (pe_cl Gis_command (hr.mono (by omega)) rfl (pa_cons (pv 1) pa_nil)))) (pss_one ps_never) pss_nil)
    (pss_cons (ps_set (i := 2) sc_Reader_act.nd rfl (Or.inl rfl) (pe_cl Gplaces_behind_command (hr.mono (by omega)) rfl (pa_cons (pe_fld (pv 0) rfl) (pa_cons (pe_ix (r := rIxL K) ix_list (pe_fld (pv 0) rfl) (pe_un un_neg pe_int) (fun _ _ => rfl)) (pa_cons (pv 1) pa_nil)))))
    (pss_cons (ps_if (pt_cmpR op_isN (pv 2) pe_non (nomark _)) (pss_one (ps_raise rfl (takes_of rfl rfl rfl rfl) (pmkNotPossible TNotPossible PNotPossible hr (pa_cons (pe_ifExp (pt_cmpR op_eq (pe_ix (r := rIxT K) ix_tup (pv 1) pe_int (fun _ _ => rfl)) pe_str (nomark _)) pe_str pe_str) pa_nil)))) pss_nil)
    (pss_cons (ps_if (pt_cmpR op_eq (pe_callB (r := rLenOf K) call_lenK rfl B.b_len boot_len (pa_cons (pe_fld (pv 0) rfl) pa_nil)) (pe_glob (v := .int 20) rfl B.g_MOST_COMMANDS ⟨_, rfl⟩) (nomark _)) (pss_one ps_never) pss_nil)
    (pss_cons (ps_expr (pe_bm PySem.F.plainAttrs_list PySem.F.slot_list_append PySem.F.type_list_append mt_append (pe_fld (pv 0) rfl) (pa_cons (pv 1) pa_nil)))
    (pss_cons (ps_expr (pe_bm PySem.F.plainAttrs_list PySem.F.slot_list_append PySem.F.type_list_append mt_append (pe_fld (pv 0) rfl) (pa_cons (pv 2) pa_nil)))
    (pss_one (ps_ret (pe_callB (r := rLenOf K) call_lenK rfl B.b_len boot_len (pa_cons (pe_fld (pv 0) rfl) pa_nil)))))))))), ?_⟩
  obtain ⟨dx, sp, rs, h1, h2, h3, h4, h5⟩ := hS.ex
  obtain ⟨rs', x, rfl, h6, r, rfl, h7⟩ := two_last h5
  refine ⟨_, rfl, q0, c, rfl, hc, hq, true, rfl, iteF ?_⟩
  refine ⟨_, rfl, p, CR, dx, _, _, rfl, h1, TR.cl, TR.a2, rdF_steps .., _, rfl, p, CR, dx, _, _, rfl, h1, TR.cl, TR.a4, rdF_reads .., _, rfl, rL, _, -1, _, rfl, rfl, SqL.of h4, atV_last, _, rfl, sp, r, q0, e, ps, c, rfl, h2.at, h40, h7, hP.1, hP.2, hq, fun hn H1 s1 => ?_, fun ps' hp x H1 s1 hx => ?_⟩
  · refine ⟨_, rfl, rfl, _, rfl, iteT ?_⟩
    have hq1 := s1 _ _ hq
    cases c with
    | none => exact ⟨_, rfl, q0, _, 0, _, rfl, rfl, SqT.of hq1, at_zero, rfl, _, rfl, iteT ⟨_, rfl, by decide, fun d hd => qx hn d H1 s1 hd⟩⟩
    | some c => exact ⟨_, rfl, q0, _, 0, _, rfl, rfl, SqT.of hq1, at_zero, rfl, _, rfl, iteF ⟨_, rfl, by decide, fun d hd => qx hn d H1 s1 hd⟩⟩
  · refine ⟨_, rfl, rfl, _, rfl, iteF ?_⟩
    have h11 := s1 _ _ h1
    have hj1 := s1 _ _ h3
    have hr1 := s1 _ _ h4
    refine ⟨_, rfl, p, CR, dx, _, _, rfl, h11, TR.cl, TR.a3, rdF_journal .., _, js.length, rfl, .inl ⟨_, SqL.of hj1, rfl⟩, rfl, _, rfl, ?_⟩
    have e20 : decide (V.int (js.length : Int) = V.int 20) = false := decide_eq_false fun h => by
      have := V.int.inj h
      omega
    rw [e20]
    refine iteF ?_
    refine ⟨_, rfl, p, CR, dx, _, _, rfl, h11, TR.cl, TR.a3, rdF_journal .., .inl ⟨rfl, _, SqL.of hj1⟩, _, rfl, jL, js, _, rfl, rfl, hj1, Nat.lt_of_lt_of_le hj (by decide), ?_⟩
    have h12 : (upd H1 jL (.lst (js ++ [.ref q0]))) p = some (.ins CR dx (rdF v (.ref sp) (.ref jL) (.ref rL))) := by
      rw [upd_ne fun c => by rw [c, hj1] at h11; cases h11]
      exact h11
    have hr2 : (upd H1 jL (.lst (js ++ [.ref q0]))) rL = some (.lst (rs' ++ [.ref r])) := by
      rw [upd_ne fun c => hS.n1 c.symm]
      exact hr1
    refine ⟨_, rfl, p, CR, dx, _, _, rfl, h12, TR.cl, TR.a4, rdF_reads .., .inl ⟨rfl, _, SqL.of hr2⟩, _, rfl, rL, _, _, rfl, rfl, hr2, ?_, ?_⟩
    · have := h6.len
      rw [List.length_append]
      exact Nat.lt_of_le_of_lt (m := 1001) (by show rs'.length + 1 ≤ 1001; omega) (by decide)
    have K3 : KeepR jL rL H1 (upd (upd H1 jL (.lst (js ++ [.ref q0]))) rL (.lst (rs' ++ [.ref r] ++ [.ref x]))) := fun b u hb n1 n2 => by
      rw [upd_ne n2, upd_ne n1]
      exact hb
    have h13 : (upd (upd H1 jL (.lst (js ++ [.ref q0]))) rL (.lst (rs' ++ [.ref r] ++ [.ref x]))) p = some (.ins CR dx (rdF v (.ref sp) (.ref jL) (.ref rL))) := by
      rw [upd_ne fun c => by rw [c, hr2] at h12; cases h12]
      exact h12
    have hj3 : (upd (upd H1 jL (.lst (js ++ [.ref q0]))) rL (.lst (rs' ++ [.ref r] ++ [.ref x]))) jL = some (.lst (js ++ [.ref q0])) := by
      rw [upd_ne hS.n1, upd_same]
    have hr3 := upd_same (H := upd H1 jL (.lst (js ++ [.ref q0]))) (a := rL) (o := .lst (rs' ++ [.ref r] ++ [.ref x]))
    revert K3 h13 hj3 hr3
    generalize upd (upd H1 jL (.lst (js ++ [.ref q0]))) rL (.lst (rs' ++ [.ref r] ++ [.ref x])) = H3
    intro K3 h13 hj3 hr3
    have kt : ∀ {b : Addr} {xs : List V}, H1 b = some (.tup xs) → H3 b = some (.tup xs) := fun hb => K3 _ _ hb (fun c => by rw [c, hj1] at hb; cases hb) (fun c => by rw [c, hr1] at hb; cases hb)
    have ki : ∀ {b C d : Addr} {fl : List (Str × V)}, H1 b = some (.ins C d fl) → H3 b = some (.ins C d fl) := fun hb => K3 _ _ hb (fun c => by rw [c, hj1] at hb; cases hb) (fun c => by rw [c, hr1] at hb; cases hb)
    have R3 : RdS CR CS H3 p o jL rL v e (js ++ [.ref q0]) (pss ++ [ps] ++ [ps']) := by
      refine ⟨⟨dx, sp, _, h13, ?_, hj3, hr3, Two.app (h5.mono fun y qs ⟨r0, e1, e2⟩ => ⟨r0, e1, kt (s1 _ _ e2)⟩) (.cons ⟨x, rfl, kt hx⟩ .nil)⟩, hS.n1, hS.n2, hS.n3⟩
      obtain ⟨_, _, _, _, _, g, _⟩ := h2.ex
      refine (h2.same s1).keep fun b u hb hc => ?_
      rcases hc with rfl | rfl | ⟨ys, rfl⟩
      · have hb2 := s1 _ _ g
        rw [hb2] at hb
        obtain rfl := Option.some.inj hb
        exact ki hb2
      · exact K3 _ _ hb hS.n2 hS.n3
      · exact kt hb
    have := qo ps' hp H3 ((KeepR.same s1).trans K3) R3
    refine ⟨_, rfl, p, CR, dx, _, _, rfl, h13, TR.cl, TR.a3, rdF_journal .., _, js.length + 1, rfl, .inl ⟨_, SqL.of hj3, by rw [List.length_append]; rfl⟩, this⟩
abbrev N_Reader_word : List Str := ["self", "place"]
theorem sc_Reader_word : FnScope ["self", "place"] ["self"] (defScope s_Reader_word) := ⟨rfl, rfl, rfl, by decide +kernel, rfl, by decide +kernel, by decide +kernel⟩
theorem ok_wordR {CR CS f : Addr} {fd : FuncData} (TR : RdTxt K CR) (T : StTxt K CS) (B : Bt K mg a_BOUNDS a_LONG_BOUNDS tL tM) (Dm : DfM K CR "word" "Reader.word" s_Reader_word ["self"] f fd) : FnOk P w K mg base CX0 1 f fd ["self"] (spWordR CR CS) := by
  refine Dm.F.ok sc_Reader_word (fun vs H Q Ex h => ?_) (fun cdv A outer s H vs Q Ex hr h => ?_)
  · obtain ⟨p, o, jL, rL, v, e, js, pss, ps, rfl, _⟩ := h
    rfl
  obtain ⟨p, o, jL, rL, v, e, js, pss, ps, rfl, hS, h40, hP, q⟩ := h
  refine ⟨_, (pss_one (ps_ret (pe_join pe_str (pe_lc (own := [("place", 1)]) (g := gName 1) (tt := tYes) rfl sc_Reader_word.nd (pi_tup (pe_ix (r := rIxL K) ix_list (pe_fld (pv 0) rfl) (pe_un un_neg pe_int) (fun _ _ => rfl))) (blkOk_by (N := N_Reader_word) (sc := defScope s_Reader_word) (by decide +kernel)) (fun _ _ _ _ _ => pg_name (i := 1) sc_Reader_word.nd rfl (Or.inl rfl)) (fun _ _ _ _ _ => pts_nil) (fun _ _ _ _ _ => (pe_ix ix_str (pe_fldB (K := K) rfl (pe_fldB (K := K) rfl (pv 0) rfl) rfl) (pv 1) (fun _ _ => rfl))))))), ?_⟩
  obtain ⟨dx, sp, rs, h1, h2, h3, h4, h5⟩ := hS.ex
  obtain ⟨rs', x, rfl, h6, r, rfl, h7⟩ := two_last h5
  obtain ⟨dx2, f0, l0, z, ts, g1, g2, g3, g4, g5, g6, g7⟩ := h2.ex
  have hzl : z.length ≤ sizeLine := by
    rw [← len_toL, g2, letters_len]
    exact Nat.le_trans h40 (by decide)
  refine ⟨⟨_, rfl⟩, _, rfl, p, CR, dx, _, _, rfl, h1, TR.cl, TR.a4, rdF_reads .., _, rfl, rL, _, -1, _, rfl, rfl, SqL.of h4, atV_last, r, rfl, ⟨_, SqT.of h7⟩, fun L hL => ?_⟩
  refine lc_tup (K := K) (a := r) (xs := natsV ps) (fun m H' => Same H H' ∧ H' L = some (.lst (((ps.take m).map (ltrS e)).map V.str))) ⟨same_upd hL, upd_same⟩ (fun m H' _ h => SqT.of (h.1 _ _ h7)) (fun m x H' hx h => ?_) (fun H' h => ?_)
  · obtain ⟨s1, hL1⟩ := h
    obtain ⟨j, hj, rfl⟩ := natsV_get hx
    have hjp := hP.1 j (List.mem_of_getElem? hj)
    have hkl := (List.getElem?_eq_some_iff.mp hj).1
    have hat : atI z.cps.toList (j : Int) = some (ltrAt e j) := by rw [g2]; exact atI_nat (ltr_get hjp)
    have hP2 := hP.2
    refine ⟨rfl, tyes ⟨_, rfl, p, CR, dx, _, _, rfl, s1 _ _ h1, TR.cl, TR.a2, rdF_steps .., sp, CS, dx2, _, _, rfl, s1 _ _ g1, T.cl, T.a1, stF_letters .., _, rfl, z, (j : Int), ltrAt e j, rfl, rfl, hzl, hat, _, hL1, ?_, fun b u hb => by rw [upd_ne (ne_of_none hb hL)]; exact s1 _ _ hb, ?_⟩⟩
    · rw [List.length_map, List.length_map, List.length_take]
      exact Nat.lt_of_le_of_lt (m := 1000) (by omega) (by decide)
    · rw [upd_same, take_snoc hj, List.map_append, List.map_append]
      rfl
  · obtain ⟨s1, hL1⟩ := h
    rw [natsV_len, List.take_length] at hL1
    have hlen : (Txt.join sNo (ps.map (ltrS e))).cps.toList = ps.map (ltrAt e) := by
      rw [join_flat2, List.map_map]
      have : ((fun z : Str => z.cps.toList) ∘ ltrS e) = fun j => [ltrAt e j] := rfl
      rw [this]
      exact sing_flat _ _
    refine ⟨sNo, L, ps.map (ltrS e), rfl, rfl, .inl (SqL.of hL1), ?_, q _ H' s1 hlen⟩
    have e0 : ((ps.map (ltrS e)).map fun z : Str => z.length).sum = ps.length := ones_sum (ltrS e) (fun _ => rfl) ps
    have e1 : sNo.length = 0 := rfl
    have hP2 := hP.2
    rw [e0, e1, Nat.mul_zero]
    omega
abbrev N_Reader_places : List Str := ["self"]
theorem sc_Reader_places : FnScope ["self"] ["self"] (defScope s_Reader_places) := ⟨rfl, rfl, rfl, by decide +kernel, rfl, by decide +kernel, by decide +kernel⟩
theorem ok_plsR {CR CS f : Addr} {fd : FuncData} (TR : RdTxt K CR) (B : Bt K mg a_BOUNDS a_LONG_BOUNDS tL tM) (Dm : DfM K CR "places" "Reader.places" s_Reader_places ["self"] f fd) : FnOk P w K mg base CX0 1 f fd ["self"] (spPlsR CR CS) := by
  refine Dm.F.ok sc_Reader_places (fun vs H Q Ex h => ?_) (fun cdv A outer s H vs Q Ex hr h => ?_)
  · obtain ⟨p, o, jL, rL, v, e, js, pss, ps, rfl, _⟩ := h
    rfl
  obtain ⟨p, o, jL, rL, v, e, js, pss, ps, rfl, hS, q⟩ := h
  refine ⟨_, (pss_one (ps_ret (pe_ix (r := rIxL K) ix_list (pe_fld (pv 0) rfl) (pe_un un_neg pe_int) (fun _ _ => rfl)))), ?_⟩
  obtain ⟨dx, sp, rs, h1, h2, h3, h4, h5⟩ := hS.ex
  obtain ⟨rs', x, rfl, h6, r, rfl, h7⟩ := two_last h5
  exact ⟨_, rfl, p, CR, dx, _, _, rfl, h1, TR.cl, TR.a4, rdF_reads .., _, rfl, rL, _, -1, _, rfl, rfl, SqL.of h4, atV_last, q r h7⟩
end
end My
namespace My
open PySem PySem.Spec PyProof.Rows L2
def spEqual (n : Nat) : Sp := fun vs H Q _ => ∃ (x y : V) (j : J) (k : Nat), vs = [x, y] ∧ k < n ∧ RepJ H x j k ∧ RepJ H y j k ∧ ∀ H', Same H H' → Q (.bl true) H'
section
variable {P : Program} {w : World} {K : PySem.W.Frag} {mg : Str → Option Value} {base : Heap} {a_BOUNDS a_LONG_BOUNDS : Addr} {tL tM : Tok}
theorem lets_by {z : Str} (h : (decide (0 < z.length) && decide (z.length ≤ 100) && z.cps.toList.all fun c => decide (97 ≤ c) && decide (c ≤ 100)) = true) : Lets z := by
  simp only [Bool.and_eq_true, decide_eq_true_eq, List.all_eq_true] at h
  exact ⟨h.1.1, h.1.2, h.2⟩
theorem sum_cast (es : List E) (f : E → Nat) : (es.map fun k => ((f k : Nat) : Int)).sum = (((es.map f).sum : Nat) : Int) := by
  induction es with
  | nil => rfl
  | cons e es ih =>
    rw [List.map_cons, List.sum_cons, List.map_cons, List.sum_cons, ih]
    omega
/-! ### the law's own comparison, of equal data -/
def SeqV (K : PySem.W.Frag) (H : Hp) (p : Addr) (xs : List V) : Prop := SqL K H p xs ∨ SqT K H p xs
theorem SeqV.len {K : PySem.W.Frag} {H : Hp} {p : Addr} {xs : List V} (h : SeqV K H p xs) {n : Nat} (e : n = xs.length) : LenV K (.ref p) H n := by
  rcases h with h | h
  · exact .inl ⟨xs, h, e⟩
  · exact .inr ⟨xs, h, e⟩
theorem SeqV.ix {K : PySem.W.Frag} {H : Hp} {p : Addr} {xs : List V} (h : SeqV K H p xs) {i : Int} {v : V} {Q : VK} (hi : atI xs i = some v) (q : Q v H) : rIx K (.ref p) (.int i) H Q := by
  rcases h with h | h
  · exact .inl ⟨p, xs, i, v, rfl, rfl, h, hi, q⟩
  · exact .inr (.inl ⟨p, xs, i, v, rfl, rfl, h, hi, q⟩)
theorem SeqV.same {K : PySem.W.Frag} {H H' : Hp} {p : Addr} {xs : List V} (s : Same H H') (h : SeqV K H p xs) : SeqV K H' p xs := by
  rcases h with h | h
  · exact .inl (s.seq h)
  · rcases h with (h | ⟨o, h⟩) | h
    · exact .inr (.inl (.inl (s _ _ h)))
    · exact .inr (.inl (.inr ⟨o, s _ _ h⟩))
    · exact .inr (.inr h)
theorem RepJ.both {K : PySem.W.Frag} {H : Hp} {x y : V} {j : J} {k : Nat} (hx : RepJ H x j k) (hy : RepJ H y j k) : (x = .non ∧ y = .non) ∨ (∃ b, x = .bl b ∧ y = .bl b) ∨ (∃ i, x = .int i ∧ y = .int i) ∨ (∃ z, x = .str z ∧ y = .str z) ∨
    ∃ (isT : Bool) (p q : Addr) (xs ys : List V) (js : List J) (k' : Nat), k = k' + 1 ∧ x = .ref p ∧ y = .ref q ∧ TyX K H x (.type (if isT then "tuple" else "list")) ∧ TyX K H y (.type (if isT then "tuple" else "list")) ∧ SeqV K H p xs ∧ SeqV K H q ys ∧ xs.length ≤ 100000 ∧ xs.length = js.length ∧ ys.length = js.length ∧
      (∀ (i : Nat) (x : V) (j : J), xs[i]? = some x → js[i]? = some j → RepJ H x j k') ∧ (∀ (i : Nat) (x : V) (j : J), ys[i]? = some x → js[i]? = some j → RepJ H x j k') := by
  cases hx with
  | non => cases hy; exact .inl ⟨rfl, rfl⟩
  | bl b => cases hy; exact .inr (.inl ⟨b, rfl, rfl⟩)
  | int i => cases hy; exact .inr (.inr (.inl ⟨i, rfl, rfl⟩))
  | str z => cases hy; exact .inr (.inr (.inr (.inl ⟨z, rfl, rfl⟩)))
  | @tup n p xs js h z l r =>
    cases hy with
    | @tup _ q ys _ h' z' l' r' => exact .inr (.inr (.inr (.inr ⟨true, p, q, xs, ys, js, n, rfl, rfl, rfl, .base (.tup h), .base (.tup h'), .inr (SqT.of h), .inr (SqT.of h'), z, l, l', r, r'⟩)))
  | @lst n p xs js h z l r =>
    cases hy with
    | @lst _ q ys _ h' z' l' r' => exact .inr (.inr (.inr (.inr ⟨false, p, q, xs, ys, js, n, rfl, rfl, rfl, .base (.lst h), .base (.lst h'), .inl (SqL.of h), .inl (SqL.of h'), z, l, l', r, r'⟩)))
def spIsInt : Sp := fun vs H Q _ => ∃ i : Int, vs = [.int i] ∧ Q (.bl true) H
abbrev N__law_is_integer : List Str := ["_law_actual"]
theorem sc__law_is_integer : FnScope ["_law_actual"] ["_law_actual"] (defScope s__law_is_integer) := ⟨rfl, rfl, rfl, by decide +kernel, rfl, by decide +kernel, by decide +kernel⟩
theorem ok_isint {f : Addr} {fd : FuncData} (B : Bt K mg a_BOUNDS a_LONG_BOUNDS tL tM) (Dd : Df K mg "_law_is_integer" s__law_is_integer ["_law_actual"] f fd) : FnOk P w K mg base CX0 1 f fd ["_law_actual"] spIsInt := by
  refine Dd.F.ok sc__law_is_integer (fun vs H Q Ex h => ?_) (fun cdv A outer s H vs Q Ex hr h => ?_)
  · obtain ⟨i, rfl, _⟩ := h
    rfl
  obtain ⟨i, rfl, q⟩ := h
  refine ⟨_, (pss_one (ps_ret (pe_and (pe_callB call_isi rfl B.b_isinstance boot_isinstance (pa_cons (pv 0) (pa_cons (pe_bltn (v := .ty "int") rfl B.b_int boot_int rfl) pa_nil))) (pe_one (pe_not (pe_callB call_isi rfl B.b_isinstance boot_isinstance (pa_cons (pv 0) (pa_cons (pe_bltn (v := .ty "bool") rfl B.b_bool boot_bool rfl) pa_nil)))))))), ?_⟩
  have T : TyX K H (.int i) (.type "int") := .base (.int i)
  exact ⟨_, rfl, _, _, _, _, _, rfl, .ty _, T, kit_ty (r := true) (by decide +kernel), _, rfl, iteT ⟨_, rfl, _, _, _, _, _, rfl, .ty _, T, kit_ty (r := false) (by decide +kernel), _, rfl, q⟩⟩
abbrev N__law_equal : List Str := ["_law_actual", "_law_due", "_law_at"]
theorem sc__law_equal : FnScope ["_law_actual", "_law_due", "_law_at"] ["_law_actual", "_law_due"] (defScope s__law_equal) := ⟨rfl, rfl, rfl, by decide +kernel, rfl, by decide +kernel, by decide +kernel⟩
theorem ok_equal_step {f : Addr} {fd : FuncData} (B : Bt K mg a_BOUNDS a_LONG_BOUNDS tL tM) (Dd : Df K mg "_law_equal" s__law_equal ["_law_actual", "_law_due"] f fd) (G_law_is_integer : Cl P w K mg base 1 "_law_is_integer" ["_law_actual"] spIsInt) (n : Nat)
    (G_law_equal : Cl P w K mg base (n + 1) "_law_equal" ["_law_actual", "_law_due"] (spEqual n)) : FnOk P w K mg base CX0 (n + 2) f fd ["_law_actual", "_law_due"] (spEqual (n + 1)) := by
  refine Dd.F.ok sc__law_equal (fun vs H Q Ex h => ?_) (fun cdv A outer s H vs Q Ex hr h => ?_)
  · obtain ⟨x, y, j, k, rfl, _⟩ := h
    rfl
  obtain ⟨x, y, j, k, rfl, hk, hx, hy, q⟩ := h
  refine ⟨_, (pss_cons (ps_if (pt_cmpR op_isN (pv 1) pe_non (nomark _)) (pss_one (ps_ret (pe_cmpR op_isN (pv 0) pe_non (nomark _)))) pss_nil)
    (pss_cons (ps_if (pt_val (pe_callB call_isi rfl B.b_isinstance boot_isinstance (pa_cons (pv 1) (pa_cons (pe_bltn (v := .ty "bool") rfl B.b_bool boot_bool rfl) pa_nil)))) (pss_one (ps_ret (pe_and (pe_callB call_isi rfl B.b_isinstance boot_isinstance (pa_cons (pv 0) (pa_cons (pe_bltn (v := .ty "bool") rfl B.b_bool boot_bool rfl) pa_nil))) (pe_one (pe_cmpR op_eq (pv 0) (pv 1) (nomark _)))))) pss_nil)
    (pss_cons (ps_if (pt_val (pe_callB call_isi rfl B.b_isinstance boot_isinstance (pa_cons (pv 1) (pa_cons (pe_bltn (v := .ty "int") rfl B.b_int boot_int rfl) pa_nil)))) (pss_one (ps_ret (pe_and (pe_cl G_law_is_integer (hr.mono (by omega)) rfl (pa_cons (pv 0) pa_nil)) (pe_one (pe_cmpR op_eq (pv 0) (pv 1) (nomark _)))))) pss_nil)
    (pss_cons (ps_if (pt_val (pe_callB call_isi rfl B.b_isinstance boot_isinstance (pa_cons (pv 1) (pa_cons (pe_bltn (v := .ty "str") rfl B.b_str boot_str rfl) pa_nil)))) (pss_one (ps_ret (pe_and (pe_callB call_isi rfl B.b_isinstance boot_isinstance (pa_cons (pv 0) (pa_cons (pe_bltn (v := .ty "str") rfl B.b_str boot_str rfl) pa_nil))) (pe_one (pe_cmpR op_eq (pv 0) (pv 1) (nomark _)))))) pss_nil)
    (C8.pss_cut (ps_if (PW.pt (pw_and (pt_val (pe_callB call_isi rfl B.b_isinstance boot_isinstance (pa_cons (pv 1) (pa_cons (pe_bltn (v := .ty "tuple") rfl B.b_tuple boot_tuple rfl) pa_nil)))) (pw_and1 (pt_not (pt_val (pe_callB call_isi rfl B.b_isinstance boot_isinstance (pa_cons (pv 0) (pa_cons (pe_bltn (v := .ty "tuple") rfl B.b_tuple boot_tuple rfl) pa_nil)))))))) (pss_one (ps_ret pe_bl)) pss_nil)
    (C8.pss_cut (ps_if (PW.pt (pw_and (pt_val (pe_callB call_isi rfl B.b_isinstance boot_isinstance (pa_cons (pv 1) (pa_cons (pe_bltn (v := .ty "list") rfl B.b_list boot_list rfl) pa_nil)))) (pw_and1 (pt_not (pt_val (pe_callB call_isi rfl B.b_isinstance boot_isinstance (pa_cons (pv 0) (pa_cons (pe_bltn (v := .ty "list") rfl B.b_list boot_list rfl) pa_nil)))))))) (pss_one (ps_ret pe_bl)) pss_nil)
    (pss_cons (ps_if (pt_cmpR op_ne (pe_callB call_len rfl B.b_len boot_len (pa_cons (pv 0) pa_nil)) (pe_callB call_len rfl B.b_len boot_len (pa_cons (pv 1) pa_nil)) (nomark _)) (pss_one (ps_ret pe_bl)) pss_nil)
    (pss_one (ps_ret (pe_callB (cr_all rfl) rfl B.b_all boot_all (pa_cons (pe_lc (own := [("_law_at", 2)]) (g := gName 2) (tt := tYes) rfl sc__law_equal.nd (pi_range1 rfl B.b_range (pa_cons (pe_callB call_len rfl B.b_len boot_len (pa_cons (pv 1) pa_nil)) pa_nil)) (blkOk_by (N := N__law_equal) (sc := defScope s__law_equal) (by decide +kernel)) (fun _ _ _ _ _ => pg_name (i := 2) sc__law_equal.nd rfl (Or.inl rfl)) (fun _ _ _ _ _ => pts_nil) (fun _ _ _ _ _ => (pe_cl G_law_equal (hr.mono (by omega)) rfl (pa_cons (pe_ix (r := rIx K) ix_seq (pv 0) (pv 2) (fun _ _ => rfl)) (pa_cons (pe_ix (r := rIx K) ix_seq (pv 1) (pv 2) (fun _ _ => rfl)) pa_nil))))) pa_nil))))))))))), ?_⟩
  rcases hx.both (K := K) hy with ⟨rfl, rfl⟩ | ⟨b, rfl, rfl⟩ | ⟨i, rfl, rfl⟩ | ⟨z, rfl, rfl⟩ | ⟨isT, p, p', xs, ys, js, k', rfl, rfl, rfl, T, T', S, S', hz, l, l', r, r'⟩
  · exact ⟨_, rfl, rfl, _, rfl, iteT ⟨_, rfl, rfl, q _ (Same.refl _)⟩⟩
  · have T : TyX K H (.bl b) (.type "bool") := .base (.bl b)
    refine ⟨_, rfl, rfl, _, rfl, iteF ⟨_, rfl, _, _, _, _, _, rfl, .ty _, T, kit_ty (r := true) (by decide +kernel), _, rfl, iteT ⟨_, rfl, _, _, _, _, _, rfl, .ty _, T, kit_ty (r := true) (by decide +kernel), _, rfl, iteT ⟨_, rfl, _, rfl, rfl, ?_⟩⟩⟩⟩
    rw [decide_eq_true rfl]
    exact q _ (Same.refl _)
  · have T : TyX K H (.int i) (.type "int") := .base (.int i)
    refine ⟨_, rfl, rfl, _, rfl, iteF ⟨_, rfl, _, _, _, _, _, rfl, .ty _, T, kit_ty (r := false) (by decide +kernel), _, rfl, iteF ⟨_, rfl, _, _, _, _, _, rfl, .ty _, T, kit_ty (r := true) (by decide +kernel), _, rfl, iteT ⟨_, rfl, i, rfl, _, rfl, iteT ⟨_, rfl, _, rfl, rfl, ?_⟩⟩⟩⟩⟩
    rw [decide_eq_true rfl]
    exact q _ (Same.refl _)
  · have T : TyX K H (.str z) (.type "str") := .base (.str z)
    refine ⟨_, rfl, rfl, _, rfl, iteF ⟨_, rfl, _, _, _, _, _, rfl, .ty _, T, kit_ty (r := false) (by decide +kernel), _, rfl, iteF ⟨_, rfl, _, _, _, _, _, rfl, .ty _, T, kit_ty (r := false) (by decide +kernel), _, rfl, iteF ⟨_, rfl, _, _, _, _, _, rfl, .ty _, T, kit_ty (r := true) (by decide +kernel), _, rfl,
      iteT ⟨_, rfl, _, _, _, _, _, rfl, .ty _, T, kit_ty (r := true) (by decide +kernel), _, rfl, iteT ⟨_, rfl, _, rfl, rfl, ?_⟩⟩⟩⟩⟩⟩
    rw [decide_eq_true rfl]
    exact q _ (Same.refl _)
  · have kb : PySem.W.kitOne K (.type (if isT then "tuple" else "list")) (.type "bool") = some false := by cases isT <;> exact kit_ty (r := false) (by decide +kernel)
    have ki : PySem.W.kitOne K (.type (if isT then "tuple" else "list")) (.type "int") = some false := by cases isT <;> exact kit_ty (r := false) (by decide +kernel)
    have ks : PySem.W.kitOne K (.type (if isT then "tuple" else "list")) (.type "str") = some false := by cases isT <;> exact kit_ty (r := false) (by decide +kernel)
    have kt : PySem.W.kitOne K (.type (if isT then "tuple" else "list")) (.type "tuple") = some isT := by
      cases isT
      · exact kit_ty (r := false) (by decide +kernel)
      · exact kit_ty (r := true) (by decide +kernel)
    have kl : PySem.W.kitOne K (.type (if isT then "tuple" else "list")) (.type "list") = some (!isT) := by
      cases isT
      · exact kit_ty (r := true) (by decide +kernel)
      · exact kit_ty (r := false) (by decide +kernel)
    refine ⟨_, rfl, rfl, _, rfl, iteF ⟨_, rfl, _, _, _, _, _, rfl, .ty _, T', kb, _, rfl, iteF ⟨_, rfl, _, _, _, _, _, rfl, .ty _, T', ki, _, rfl, iteF ⟨_, rfl, _, _, _, _, _, rfl, .ty _, T', ks, _, rfl, iteF ?_⟩⟩⟩⟩
    refine ⟨fun σ' H' => σ' = [some (.ref p), some (.ref p'), none] ∧ H = H', ?_, ?_⟩
    · refine ⟨_, rfl, _, _, _, _, _, rfl, .ty _, T', kt, _, rfl, ite2 (fun e => ?_) (fun e => iteF ⟨rfl, rfl⟩)⟩
      refine ⟨_, rfl, _, _, _, _, _, rfl, .ty _, T, kt, _, rfl, ?_⟩
      rw [e]
      exact iteF ⟨rfl, rfl⟩
    rintro σ' H' ⟨rfl, rfl⟩
    refine ⟨fun σ' H' => σ' = [some (.ref p), some (.ref p'), none] ∧ H = H', ?_, ?_⟩
    · refine ⟨_, rfl, _, _, _, _, _, rfl, .ty _, T', kl, _, rfl, ite2 (fun e => ?_) (fun e => iteF ⟨rfl, rfl⟩)⟩
      refine ⟨_, rfl, _, _, _, _, _, rfl, .ty _, T, kl, _, rfl, ?_⟩
      rw [e]
      exact iteF ⟨rfl, rfl⟩
    rintro σ' H' ⟨rfl, rfl⟩
    refine ⟨_, rfl, _, js.length, rfl, S.len l.symm, _, rfl, _, js.length, rfl, S'.len l'.symm, rfl, _, rfl, ?_⟩
    have e0 : (!decide (V.int ((js.length : Nat) : Int) = V.int ((js.length : Nat) : Int))) = false := by
      rw [decide_eq_true rfl]
      rfl
    refine ite2 (fun e => ?_) (fun _ => ?_)
    · have e1 : (!decide (V.int ((js.length : Nat) : Int) = V.int ((js.length : Nat) : Int))) = true := e
      rw [e0] at e1
      cases e1
    refine ⟨_, rfl, _, js.length, rfl, S'.len l'.symm, _, rfl, by omega, by omega, fun L hL => ?_⟩
    refine lc_range (lo := 0) (n := js.length) (fun i H2 => Same H H2 ∧ H2 L = some (.lst ((List.replicate i true).map V.bl))) ⟨same_upd hL, upd_same⟩ (fun i H2 hi h => ?_) (fun H2 h => ?_)
    · have ix : xs[i]? = some xs[i] := List.getElem?_eq_getElem (by omega)
      have iy : ys[i]? = some ys[i] := List.getElem?_eq_getElem (by omega)
      have ij : js[i]? = some js[i] := List.getElem?_eq_getElem hi
      refine ⟨rfl, tyes ⟨_, rfl, _, rfl, (S.same h.1).ix (at_of (j := i) (by omega) ix) ⟨_, rfl, _, rfl, (S'.same h.1).ix (at_of (j := i) (by omega) iy) ⟨_, _, _, _, rfl, by omega, (r i _ _ ix ij).same h.1, (r' i _ _ iy ij).same h.1, fun H3 s3 => ⟨_, s3 _ _ h.2, ?_, ?_, ?_⟩⟩⟩⟩⟩
      · rw [List.length_map, List.length_replicate]
        exact Nat.lt_of_le_of_lt (m := 100000) (by omega) (by decide)
      · exact fun b o e => by rw [upd_ne (ne_of_none e hL)]; exact s3 _ _ (h.1 b o e)
      · rw [upd_same, List.replicate_succ', List.map_append]
        rfl
    · obtain ⟨h1, h2⟩ := h
      refine ⟨L, _, rfl, SqL.of h2, ?_⟩
      have e1 : (List.replicate js.length true).all id = true := by
        rw [List.all_eq_true]
        intro x hx
        rw [(List.mem_replicate.mp hx).2]
        rfl
      rw [e1]
      exact q _ h1
end
end My
namespace My
open PySem PySem.Spec PyProof.Rows L2
/-! ### what is drawn; the point behind a word -/
theorem esh_of {e : E} (h : e.ok = true) (h1 : e.depth ≤ 6) (h2 : e.places ≤ 8) (h3 : e.parts ≤ 24) : Esh e := ⟨h, h1, h2, h3, by have := (cnt h).s; omega⟩
theorem GoU.close {a U : Addr} {H H' : Hp} {u : HO} (st : Strm H a) (hU : H U = none) (g : GoU a (.ref U) (upd H U u) H') : Go a H H' := by
  have hUa : U ≠ a := (st.ne hU).symm
  refine { keep := fun b o hb hn => ?_, st0 := st, mv := fun l c k ns h => ?_ }
  · have hbU : b ≠ U := ne_of_none hb hU
    exact g.keep b o (by rw [upd_ne hbU]; exact hb) hn fun e => hbU (V.ref.inj e).symm
  · exact g.mv l c k ns ⟨by rw [upd_ne hUa.symm]; exact h.1, by rw [upd_ne (ne_of_none h.2.1 hU)]; exact h.2.1, h.2.2⟩
theorem conf_diff {e : E} {k : Nat} (h : e.letters = (List.range e.places).map fun i => 97 + (k + i)) : confB e = false := by
  rw [← conf_any, List.any_map, List.any_eq_false]
  intro t _ c
  have c : hasT e t = true := c
  unfold hasT at c
  rw [List.any_eq_true] at c
  obtain ⟨x, _, hx⟩ := c
  obtain ⟨hi, hj, hij, he⟩ := of_decide_eq_true hx
  have li := nearT_lt e t _ hi
  have lj := nearT_lt e t _ hj
  have g : ∀ m, m < e.places → e.letters[m]? = some (97 + (k + m)) := fun m hm => by
    rw [h, List.getElem?_map, List.getElem?_range hm]
    rfl
  rw [g _ li, g _ lj] at he
  have := Option.some.inj he
  omega
/-- the places behind a word, from those behind ps -/
def goT (e : E) : List Nat → List Nat → Option (List Nat)
  | ps, [] => some ps
  | ps, c :: w => match nextT e (stT ps) c with | none => none | some j => goT e (ps ++ [j]) w
theorem goT_app (e : E) : ∀ (u v ps : List Nat), goT e ps (u ++ v) = (goT e ps u).bind fun qs => goT e qs v
  | [], v, ps => rfl
  | c :: u, v, ps => by
    rw [List.cons_append, goT, goT]
    cases nextT e (stT ps) c with
    | none => rfl
    | some j => exact goT_app e u v _
theorem goT_snoc (e : E) (u ps : List Nat) (c : Nat) : goT e ps (u ++ [c]) = (goT e ps u).bind fun qs => (nextT e (stT qs) c).map fun j => qs ++ [j] := by
  rw [goT_app]
  congr 1
  funext qs
  rw [goT]
  cases nextT e (stT qs) c <;> rfl
theorem nextT_ok {e : E} {t c j : Nat} (h : nextT e t c = some j) : j < e.places ∧ ltrAt e j = c := by
  have h1 := List.find?_some h
  exact ⟨nearT_lt e t j (List.mem_of_find?_eq_some h), eq_of_beq h1⟩
theorem goT_ok {e : E} : ∀ {w ps qs : List Nat}, goT e ps w = some qs → (∀ x ∈ ps, x < e.places) → ∃ rs, qs = ps ++ rs ∧ rs.map (ltrAt e) = w ∧ ∀ x ∈ rs, x < e.places
  | [], ps, qs, h, _ => by
    obtain rfl := Option.some.inj h
    exact ⟨[], (List.append_nil _).symm, rfl, fun x hx => by cases hx⟩
  | c :: w, ps, qs, h, hp => by
    rw [goT] at h
    cases hn : nextT e (stT ps) c with
    | none =>
      rw [hn] at h
      cases h
    | some j =>
      rw [hn] at h
      obtain ⟨h1, h2⟩ := nextT_ok hn
      obtain ⟨rs, e1, e2, e3⟩ := goT_ok h (fun x hx => by
        rcases List.mem_append.mp hx with hx | hx
        · exact hp x hx
        · rw [List.mem_singleton.mp hx]; exact h1)
      refine ⟨j :: rs, by rw [e1, List.append_assoc]; rfl, by rw [List.map_cons, e2, h2], fun x hx => ?_⟩
      rcases List.mem_cons.mp hx with rfl | hx
      · exact h1
      · exact e3 x hx
theorem stT_le {e : E} {ps : List Nat} (h : ∀ x ∈ ps, x < e.places) : stT ps ≤ e.places := by
  by_cases c : ps = []
  · subst c
    exact Nat.zero_le _
  · obtain ⟨ys, y, rfl⟩ := snoc_of c
    rw [stT_snoc]
    exact h y (List.mem_append.mpr (.inr (List.mem_singleton.mpr rfl)))
def spSureD : Sp := fun vs H Q _ => ∃ (a : Addr), vs = [.ref a] ∧ Strm H a ∧ ∀ v H' e, Go a H H' → Rep H' v e.toD → Esh e → 1 ≤ e.places → e.places ≤ 4 → confB e = false → Q v H'
section
variable {P : Program} {w : World} {K : PySem.W.Frag} {mg : Str → Option Value} {base : Heap} {a_BOUNDS a_LONG_BOUNDS : Addr} {tL tM : Tok} {CN fI : Addr}
abbrev N__law_sure : List Str := ["_law_stream_here", "_law_expression"]
theorem sc__law_sure : FnScope ["_law_stream_here", "_law_expression"] ["_law_stream_here"] (defScope s__law_sure) := ⟨rfl, rfl, rfl, by decide +kernel, rfl, by decide +kernel, by decide +kernel⟩
theorem ok_sureD {f : Addr} {fd : FuncData} (B : Bt K mg a_BOUNDS a_LONG_BOUNDS tL tM) (Dd : Df K mg "_law_sure" s__law_sure ["_law_stream_here"] f fd) (G_law_next : Cl P w K mg base 1 "_law_next" ["_law_stream_here", "_law_many"] spNext) (G_law_made : Cl P w K mg base 6 "_law_made" ["_law_stream_here", "_law_letters_here", "_law_places", "_law_deep", "_law_outer", "_law_used"] (spMade 4)) (G_law_is_sure : Cl P w K mg base 23 "_law_is_sure" ["_law_expression"] spSureL) : FnOk P w K mg base CX0 24 f fd ["_law_stream_here"] spSureD := by
  refine Dd.F.ok sc__law_sure (fun vs H Q Ex h => ?_) (fun cdv A outer s H vs Q Ex hr h => ?_)
  · obtain ⟨a, rfl, _⟩ := h
    rfl
  obtain ⟨a, rfl, st, q⟩ := h
  refine ⟨_, (pss_cons (ps_set (i := 1) sc__law_sure.nd rfl (Or.inl rfl) (pe_cl G_law_made (hr.mono (by omega)) rfl (pa_cons (pv 0) (pa_cons pe_str (pa_cons (pe_op op_add pe_int (pe_cl G_law_next (hr.mono (by omega)) rfl (pa_cons (pv 0) (pa_cons pe_int pa_nil)))) (pa_cons pe_int (pa_cons pe_str (pa_cons pe_non pa_nil))))))))
    (pss_cons (ps_if (pt_not (pt_val (pe_cl G_law_is_sure (hr.mono (by omega)) rfl (pa_cons (pv 1) pa_nil)))) (pss_one (ps_set (i := 1) sc__law_sure.nd rfl (Or.inl rfl) (pe_cl G_law_made (hr.mono (by omega)) rfl (pa_cons (pv 0) (pa_cons pe_str (pa_cons (pe_op op_add pe_int (pe_cl G_law_next (hr.mono (by omega)) rfl (pa_cons (pv 0) (pa_cons pe_int pa_nil)))) (pa_cons pe_int (pa_cons pe_str (pa_cons (pe_lst pa_nil) pa_nil))))))))) pss_nil)
    (pss_one (ps_ret (pv 1))))), ?_⟩
  have esh : ∀ {e : E} {pl : Nat}, pl ≤ 4 → MadeE e pl 3 none → Esh e := fun hp m => esh_of m.ok (by have := m.dep; omega) (by have := m.ples; omega) (by
    have h1 := Nat.le_trans m.pt (mP_two (fun h => by cases h))
    omega)
  refine ⟨_, rfl, _, rfl, a, 4, rfl, st, by decide, by decide, fun d H1 d0 d1 g1 => ⟨_, _, rfl, rfl, ?_⟩⟩
  obtain ⟨pl, hpl, hp1, hp4⟩ : ∃ pl : Nat, 1 + d = (pl : Int) ∧ 1 ≤ pl ∧ pl ≤ 4 := ⟨(1 + d).toNat, by omega, by omega, by omega⟩
  refine ⟨a, _, pl, 3, none, .non, 0, congrArg (fun i => [V.ref a, V.str "abc", V.int i, V.int 3, V.str sNo, V.non]) hpl, g1.st, lets_by (by decide +kernel), hp1, by omega, by decide, (fun h => by cases h), ⟨.inl rfl⟩, fun h => absurd rfl h, fun v H2 e g2 r2 m2 _ _ => ?_⟩
  have g2 : Go a H1 H2 := { keep := fun b o hb hn => g2.keep b o hb hn (fun c => by cases c), st0 := g2.st0, mv := g2.mv }
  have G2 := g1.trans g2
  have hE := esh hp4 m2
  refine ⟨_, rfl, v, e, rfl, hE, r2, fun H3 s3 => ?_⟩
  have G3 := G2.trans (Go.same g2.st s3)
  have r3 := r2.pers (Pers.same s3)
  cases hc : confB e with
  | false =>
    refine ⟨true, rfl, ?_⟩
    exact ⟨_, rfl, q v H3 e G3 r3 hE (by have := m2.ples; omega) (by have := m2.ples; omega) hc⟩
  | true =>
    refine ⟨false, rfl, ?_⟩
    refine ⟨_, rfl, _, rfl, a, 4, rfl, G3.st, by decide, by decide, fun d' H4 d0' d1' g4 => ⟨_, _, rfl, rfl, by show 0 ≤ sizeLine; decide, fun U hU => ?_⟩⟩
    obtain ⟨pl', hpl', hp1', hp4'⟩ : ∃ pl' : Nat, 1 + d' = (pl' : Int) ∧ 1 ≤ pl' ∧ pl' ≤ 4 := ⟨(1 + d').toNat, by omega, by omega, by omega⟩
    have hUa : U ≠ a := (g4.st.ne hU).symm
    have g5 := Go.new (o := .lst []) g4.st hU
    have hu : UsedAt (upd H4 U (.lst [])) a (.ref U) 0 := by
      refine ⟨.inr ⟨U, rfl, hUa, fun l c j ns w => ?_, upd_same⟩⟩
      obtain ⟨l0, c0, k0, n0, w0⟩ := g4.st
      obtain ⟨c1, k1, n1, w1⟩ := g5.mv _ _ _ _ w0
      rw [strmW_l w w1]
      exact ne_of_none w0.2.1 hU
    refine ⟨a, _, pl', 3, none, .ref U, 0, congrArg (fun i => [V.ref a, V.str "abc", V.int i, V.int 3, V.str sNo, V.ref U]) hpl', g5.st, lets_by (by decide +kernel), hp1', by omega, by decide, (fun h => by cases h), hu, fun _ => by omega, fun v' H6 e' g6 r6 m6 _ l6 => ?_⟩
    have G6 := G3.trans (g4.trans (g6.close g4.st hU))
    have hl := l6 (fun c => by cases c)
    rw [← m6.ples] at hl
    exact ⟨_, rfl, q v' H6 e' G6 r6 (esh hp4' m6) (by have := m6.ples; omega) (by have := m6.ples; omega) (conf_diff hl)⟩
end
end My
namespace My
open PySem PySem.Spec PyProof.Rows L2
/-! ### where a word may end -/
def endB (e : E) (t : Nat) : Bool := match t with | 0 => (gl e 0).nul | t + 1 => decide (t ∈ (gl e 0).lst)
theorem in_natsR (x : Nat) (ys : List Nat) : inV (V.int (x : Int)) (natsV ys) = decide (x ∈ ys) := by
  unfold inV natsV
  rw [Bool.eq_iff_iff]
  simp [eqV]
  constructor
  · rintro ⟨y, hy, h⟩
    have e : y = x := by omega
    rw [← e]
    exact hy
  · exact fun h => ⟨x, h, rfl⟩
theorem flat_natsR (ys : List Nat) : (natsV ys).all flatV = true := by
  unfold natsV
  rw [List.all_map, List.all_eq_true]
  intro x _
  rfl
theorem stF_emptyR (z b f l o : V) : (stF z b f l o).lookup ("empty" : Str) = some b := by
  unfold stF
  rw [lookup_putF, if_neg (by decide +kernel), lookup_putF, if_neg (by decide +kernel), lookup_putF, if_neg (by decide +kernel), lookup_putF, if_pos rfl]
def spCanEnd (C : Addr) : Sp := fun vs H Q _ => ∃ (p r : Addr) (e : E) (ps : List Nat), vs = [.ref p, .ref r] ∧ StepsAt C H p e ∧ H r = some (.tup (natsV ps)) ∧ Q (.bl (endB e (stT ps))) H
def spMayEnd (CR CS : Addr) : Sp := fun vs H Q _ => ∃ (p o jL rL : Addr) (v : V) (e : E) (js : List V) (pss : List (List Nat)) (ps : List Nat), vs = [.ref p] ∧ RdS CR CS H p o jL rL v e js (pss ++ [ps]) ∧ Q (.bl (endB e (stT ps))) H
section
variable {P : Program} {w : World} {K : PySem.W.Frag} {mg : Str → Option Value} {base : Heap} {a_BOUNDS a_LONG_BOUNDS : Addr} {tL tM : Tok} {CN fI : Addr}
abbrev N_can_end : List Str := ["steps", "read"]
theorem sc_can_end : FnScope ["steps", "read"] ["steps", "read"] (defScope s_can_end) := ⟨rfl, rfl, rfl, by decide +kernel, rfl, by decide +kernel, by decide +kernel⟩
theorem ok_canend {C f : Addr} {fd : FuncData} (T : StTxt K C) (B : Bt K mg a_BOUNDS a_LONG_BOUNDS tL tM) (Dd : Df K mg "can_end" s_can_end ["steps", "read"] f fd) : FnOk P w K mg base CX0 1 f fd ["steps", "read"] (spCanEnd C) := by
  refine Dd.F.ok sc_can_end (fun vs H Q Ex h => ?_) (fun cdv A outer s H vs Q Ex hr h => ?_)
  · obtain ⟨p, r, e, ps, rfl, _⟩ := h
    rfl
  obtain ⟨p, r, e, ps, rfl, hS, hr0, q⟩ := h
  refine ⟨_, (pss_one (ps_ret (pe_ifExp (pt_truth (pv 1) (by intro _; rfl)) (pe_cmpR op_in_seq (pe_ix (r := rIxT K) ix_tup (pv 1) (pe_un un_neg pe_int) (fun _ _ => rfl)) (pe_fld (pv 0) rfl) rfl) (pe_fld (pv 0) rfl)))), ?_⟩
  obtain ⟨dx, f0, l0, o, z, ts, h1, h2, h3, h4, h5, h6, h7⟩ := hS.ex
  by_cases c : ps = []
  · refine ⟨_, rfl, false, .inr (.inl ⟨_, SqT.of hr0, by rw [c]; rfl⟩), iteF ?_⟩
    subst c
    exact ⟨_, rfl, p, C, dx, _, _, rfl, h1, T.cl, T.a2, stF_emptyR .., q⟩
  · obtain ⟨ys, y, rfl⟩ := snoc_of c
    refine ⟨_, rfl, true, .inr (.inl ⟨_, SqT.of hr0, by rw [← natsV_app]; cases natsV ys <;> rfl⟩), iteT ?_⟩
    refine ⟨_, rfl, _, rfl, r, _, -1, _, rfl, rfl, SqT.of hr0, atP_last, _, rfl, p, C, dx, _, _, rfl, h1, T.cl, T.a4, stF_last .., l0, _, rfl, .inr (SqT.of h4), rfl, flat_natsR _, ?_⟩
    rw [stT_snoc] at q
    have q : Q (.bl (decide (y ∈ (gl e 0).lst))) H := q
    rw [← in_natsR] at q
    exact q
abbrev N_Reader_may_end : List Str := ["self"]
theorem sc_Reader_may_end : FnScope ["self"] ["self"] (defScope s_Reader_may_end) := ⟨rfl, rfl, rfl, by decide +kernel, rfl, by decide +kernel, by decide +kernel⟩
theorem ok_mayend {CR CS f : Addr} {fd : FuncData} (TR : RdTxt K CR) (B : Bt K mg a_BOUNDS a_LONG_BOUNDS tL tM) (Dm : DfM K CR "may_end" "Reader.may_end" s_Reader_may_end ["self"] f fd) (Gcan_end : Cl P w K mg base 1 "can_end" ["steps", "read"] (spCanEnd CS)) : FnOk P w K mg base CX0 2 f fd ["self"] (spMayEnd CR CS) := by
  refine Dm.F.ok sc_Reader_may_end (fun vs H Q Ex h => ?_) (fun cdv A outer s H vs Q Ex hr h => ?_)
  · obtain ⟨p, o, jL, rL, v, e, js, pss, ps, rfl, _⟩ := h
    rfl
  obtain ⟨p, o, jL, rL, v, e, js, pss, ps, rfl, hS, q⟩ := h
  refine ⟨_, (pss_one (ps_ret (pe_cl Gcan_end (hr.mono (by omega)) rfl (pa_cons (pe_fld (pv 0) rfl) (pa_cons (pe_ix (r := rIxL K) ix_list (pe_fld (pv 0) rfl) (pe_un un_neg pe_int) (fun _ _ => rfl)) pa_nil))))), ?_⟩
  obtain ⟨dx, sp, rs, h1, h2, h3, h4, h5⟩ := hS.ex
  obtain ⟨rs', x, rfl, h6, r, rfl, h7⟩ := two_last h5
  exact ⟨_, rfl, p, CR, dx, _, _, rfl, h1, TR.cl, TR.a2, rdF_steps .., _, rfl, p, CR, dx, _, _, rfl, h1, TR.cl, TR.a4, rdF_reads .., _, rfl, rL, _, -1, _, rfl, rfl, SqL.of h4, atV_last, sp, r, e, ps, rfl, h2.at, h7, q⟩
end
end My
namespace My
open PySem PySem.Spec PyProof.Rows L2
/-! ### where a word may end, by the tables -/
def spMayL : Sp := fun vs H Q _ => ∃ (v : V) (e : E) (t : Nat), vs = [v, plV t] ∧ Esh e ∧ Rep H v e.toD ∧ ∀ H', Same H H' → Q (.bl (endB e t)) H'
section
variable {P : Program} {w : World} {K : PySem.W.Frag} {mg : Str → Option Value} {base : Heap} {a_BOUNDS a_LONG_BOUNDS : Addr} {tL tM : Tok} {CN fI : Addr}
abbrev N__law_may_end : List Str := ["_law_expression", "_law_place", "_law_empty", "_law_first", "_law_last", "_law_pairs"]
theorem sc__law_may_end : FnScope ["_law_expression", "_law_place", "_law_empty", "_law_first", "_law_last", "_law_pairs"] ["_law_expression", "_law_place"] (defScope s__law_may_end) := ⟨rfl, rfl, rfl, by decide +kernel, rfl, by decide +kernel, by decide +kernel⟩
theorem ok_mayL {f : Addr} {fd : FuncData} (B : Bt K mg a_BOUNDS a_LONG_BOUNDS tL tM) (Dd : Df K mg "_law_may_end" s__law_may_end ["_law_expression", "_law_place"] f fd) (G_law_tables : Cl P w K mg base 21 "_law_tables" ["_law_expression", "_law_start"] (spTables 7)) : FnOk P w K mg base CX0 22 f fd ["_law_expression", "_law_place"] spMayL := by
  refine Dd.F.ok sc__law_may_end (fun vs H Q Ex h => ?_) (fun cdv A outer s H vs Q Ex hr h => ?_)
  · obtain ⟨v, e, t, rfl, _⟩ := h
    rfl
  obtain ⟨v, e, t, rfl, hE, hR, q⟩ := h
  refine ⟨_, (pss_cons (ps_asg (pe_cl G_law_tables (hr.mono (by omega)) rfl (pa_cons (pv 0) (pa_cons pe_int pa_nil))) (pg_tup rfl (pgs_cons (pg_name (i := 2) sc__law_may_end.nd rfl (Or.inl rfl)) (pgs_cons (pg_name (i := 3) sc__law_may_end.nd rfl (Or.inl rfl)) (pgs_cons (pg_name (i := 4) sc__law_may_end.nd rfl (Or.inl rfl)) (pgs_cons (pg_name (i := 5) sc__law_may_end.nd rfl (Or.inl rfl)) pgs_nil))))))
    (pss_cons (ps_if (pt_cmpR op_isN (pv 1) pe_non (nomark _)) (pss_one (ps_ret (pv 2))) pss_nil)
    (pss_one (ps_ret (pe_cmpR op_in_seq (pv 1) (pv 4) rfl))))), ?_⟩
  have dx := hE.dep
  have px := hE.pl
  have tx := hE.pt
  refine ⟨_, rfl, v, e, 0, rfl, hE.ok, by omega, by omega, px, by omega, by omega, hR, fun T H1 s1 hT => ?_⟩
  obtain ⟨f1, l1, p1, ij, a1, a2, a3, a4, a5, a6, _⟩ := hT.ex
  refine ⟨T, _, rfl, SqT.of a1, rfl, _, _, rfl, _, _, rfl, _, _, rfl, _, _, rfl, rfl, ?_⟩
  cases t with
  | zero => exact ⟨_, rfl, rfl, _, rfl, iteT ⟨_, rfl, q H1 s1⟩⟩
  | succ t =>
    refine ⟨_, rfl, rfl, _, rfl, iteF ⟨_, rfl, _, rfl, l1, _, rfl, .inl (SqL.of a3), rfl, flat_natsR _, ?_⟩⟩
    have q : Q (.bl (decide (t ∈ (gl e 0).lst))) H1 := q H1 s1
    rw [← in_natsR] at q
    exact q
end
end My
namespace My
open PySem PySem.Spec PyProof.Rows L2
/-! ### words that are read -/
theorem sure_filter {e : E} (hc : confB e = false) {t : Nat} (ht : t ≤ e.places) (c : Nat) : ((nearT e t).filter fun j => ltrAt e j == c) = (nextT e t c).toList := by
  have hT : hasT e t = false := by
    rw [← conf_any, List.any_map, List.any_eq_false] at hc
    have := hc t (List.mem_range.mpr (by omega))
    cases h : hasT e t with
    | false => rfl
    | true => exact absurd h this
  have hl : ((nearT e t).filter fun j => ltrAt e j == c).length ≤ 1 := by
    have hr := nearT_rise e t
    match hm : (nearT e t).filter (fun j => ltrAt e j == c) with
    | [] => exact Nat.zero_le _
    | [_] => exact Nat.le_refl _
    | a :: b :: r =>
      have ma : a ∈ (nearT e t).filter (fun j => ltrAt e j == c) := by rw [hm]; exact List.mem_cons_self ..
      have mb : b ∈ (nearT e t).filter (fun j => ltrAt e j == c) := by rw [hm]; exact List.mem_cons_of_mem _ (List.mem_cons_self ..)
      have hab : a < b := by
        have := hr.sublist (List.filter_sublist (p := fun j => ltrAt e j == c))
        rw [hm] at this
        exact (List.pairwise_cons.mp this).1 b (List.mem_cons_self ..)
      obtain ⟨a1, a2⟩ := List.mem_filter.mp ma
      obtain ⟨b1, b2⟩ := List.mem_filter.mp mb
      have la := nearT_lt e t a a1
      have lb := nearT_lt e t b b1
      have : hasT e t = true := by
        unfold hasT
        rw [List.any_eq_true]
        refine ⟨(a, b), pairsN_mem.mpr ⟨la, lb⟩, decide_eq_true ⟨a1, b1, hab, ?_⟩⟩
        rw [ltr_get la, ltr_get lb, eq_of_beq a2, eq_of_beq b2]
      rw [hT] at this
      cases this
  have hh : nextT e t c = ((nearT e t).filter fun j => ltrAt e j == c).head? := List.head?_filter.symm
  rw [hh]
  match hm : (nearT e t).filter (fun j => ltrAt e j == c), hl with
  | [], _ => rfl
  | [_], _ => rfl
theorem opt_len {α : Type} (o : Option α) : o.toList.length ≤ 1 := by
  cases o with
  | none => exact Nat.zero_le _
  | some _ => exact Nat.le_refl _
def stepL (e : E) (c : Nat) (ps : List Nat) : List (List Nat) := ((nearT e (stT ps)).filter fun j => ltrAt e j == c).map fun j => ps ++ [j]
theorem goT_steps {e : E} (hc : confB e = false) (u : List Nat) (c : Nat) : (goT e [] (u ++ [c])).toList = ((goT e [] u).toList.map (stepL e c)).flatten := by
  rw [goT_snoc]
  cases hg : goT e [] u with
  | none => rfl
  | some ps =>
    obtain ⟨rs, e1, _, e3⟩ := goT_ok hg (fun x hx => by cases hx)
    rw [List.nil_append] at e1
    subst e1
    show ((nextT e (stT ps) c).map fun j => ps ++ [j]).toList = [stepL e c ps].flatten
    unfold stepL
    rw [sure_filter hc (stT_le e3), List.flatten_cons, List.flatten_nil, List.append_nil]
    cases nextT e (stT ps) c <;> rfl
def RowOf (H : Hp) (x : V) (ps : List Nat) : Prop := ∃ q r, x = V.ref q ∧ H q = some (.tup [.ref r, plV (stT ps)]) ∧ H r = some (.tup (natsV ps))
def PlsOf (H : Hp) (x : V) (ps : List Nat) : Prop := ∃ r, x = V.ref r ∧ H r = some (.tup (natsV ps))
theorem RowOf.same {H H' : Hp} {x : V} {ps : List Nat} (s : Same H H') (h : RowOf H x ps) : RowOf H' x ps := by
  obtain ⟨q, r, h1, h2, h3⟩ := h
  exact ⟨q, r, h1, s _ _ h2, s _ _ h3⟩
theorem RowOf.upd {H : Hp} {x : V} {ps : List Nat} {D : Addr} {zs ys : List V} (hD : H D = some (.lst zs)) (h : RowOf H x ps) : RowOf (L2.upd H D (.lst ys)) x ps := by
  obtain ⟨q, r, h1, h2, h3⟩ := h
  exact ⟨q, r, h1, by rw [upd_ne fun c => by rw [c, hD] at h2; cases h2]; exact h2, by rw [upd_ne fun c => by rw [c, hD] at h3; cases h3]; exact h3⟩
theorem PlsOf.same {H H' : Hp} {x : V} {ps : List Nat} (s : Same H H') (h : PlsOf H x ps) : PlsOf H' x ps := by
  obtain ⟨r, h1, h2⟩ := h
  exact ⟨r, h1, s _ _ h2⟩
theorem PlsOf.upd {H : Hp} {x : V} {ps : List Nat} {D : Addr} {zs ys : List V} (hD : H D = some (.lst zs)) (h : PlsOf H x ps) : PlsOf (L2.upd H D (.lst ys)) x ps := by
  obtain ⟨r, h1, h2⟩ := h
  exact ⟨r, h1, by rw [upd_ne fun c => by rw [c, hD] at h2; cases h2]; exact h2⟩
def marksOf (e : E) (w : List Nat) : List (List Nat) := (goT e [] w).toList.filter fun ps => endB e (stT ps)
theorem at_abcd {d : Int} (h0 : 0 ≤ d) (h1 : d < 4) : ∃ c, atI ("abcd" : Str).cps.toList d = some c ∧ 97 ≤ c ∧ c ≤ 100 := by
  have : d = 0 ∨ d = 1 ∨ d = 2 ∨ d = 3 := by omega
  rcases this with rfl | rfl | rfl | rfl
  · exact ⟨97, by decide +kernel, by decide, by decide⟩
  · exact ⟨98, by decide +kernel, by decide, by decide⟩
  · exact ⟨99, by decide +kernel, by decide, by decide⟩
  · exact ⟨100, by decide +kernel, by decide, by decide⟩
theorem goT_len2 {e : E} {w ps : List Nat} (h : goT e [] w = some ps) : ps.length = w.length := by
  obtain ⟨rs, e1, e2, e3⟩ := goT_ok h (fun x hx => by cases hx)
  rw [List.nil_append] at e1
  subst e1
  rw [← e2, List.length_map]
theorem marks_none {e : E} {w : List Nat} (h : goT e [] w = none) : marksOf e w = [] := by
  unfold marksOf
  rw [h]
  rfl
theorem marks_some {e : E} {w ps : List Nat} (h : goT e [] w = some ps) : marksOf e w = if endB e (stT ps) = true then [ps] else [] := by
  unfold marksOf
  rw [h]
  show [ps].filter (fun ps => endB e (stT ps)) = _
  cases hb : endB e (stT ps) with
  | true => rw [List.filter_cons_of_pos (p := fun ps => endB e (stT ps)) hb]; rfl
  | false => rw [List.filter_cons_of_neg (p := fun ps => endB e (stT ps)) (by rw [hb]; exact Bool.false_ne_true)]; rfl
theorem plN_rep {H : Hp} {q : Addr} {ps : List Nat} {n : Nat} (h : H q = some (.tup (natsV ps))) (hl : ps.length ≤ 100000) : RepJ H (.ref q) (.tup (ps.map fun (j : Nat) => J.int (j : Int))) (n + 1) := .tup h (by rw [natsV_len]; exact hl) (by rw [natsV_len, List.length_map]) fun i x j hx hj => by
  obtain ⟨k, hk, rfl⟩ := natsV_get hx
  rw [List.getElem?_map, hk] at hj
  obtain rfl := Option.some.inj hj
  exact .int _
def WordOk (z : Str) : Prop := ∀ c ∈ z.cps.toList, 97 ≤ c ∧ c ≤ 100
def spMarksL : Sp := fun vs H Q _ => ∃ (v : V) (z : Str) (e : E), vs = [v, .str z] ∧ Esh e ∧ Rep H v e.toD ∧ confB e = false ∧ z.length ≤ 20 ∧ ∀ q xs H', Same H H' → H' q = some (.lst xs) → Two (PlsOf H') xs (marksOf e z.cps.toList) → Q (.ref q) H'
def spWordD : Sp := fun vs H Q _ => ∃ (a : Addr) (v : V) (e : E), vs = [.ref a, v] ∧ Strm H a ∧ Esh e ∧ Rep H v e.toD ∧ ∀ (z : Str) H', Go a H H' → z.length ≤ 6 → WordOk z → Q (.str z) H'
def spReadL (CR CS : Addr) : Sp := fun vs H Q _ => ∃ (p o jL rL : Addr) (v : V) (z : Str) (e : E), vs = [.ref p, .str z] ∧ RdS CR CS H p o jL rL v e [] [[]] ∧ e.places ≤ 40 ∧ z.length ≤ 10 ∧ WordOk z ∧ ∀ H', KeepR jL rL H H' → (goT e [] z.cps.toList = none → Q (.bl false) H') ∧ ∀ ps js pss, goT e [] z.cps.toList = some ps → RdS CR CS H' p o jL rL v e js (pss ++ [ps]) → Q (.bl true) H'
def spLaw (K : PySem.W.Frag) : Sp := fun vs H Q _ => ∃ (s : Addr) (ns : List Int), vs = [.ref s] ∧ SqL K H s (ns.map V.int) ∧ ns.length ≤ 63 ∧ ∀ H', Q (.bl true) H'
section
variable {P : Program} {w : World} {K : PySem.W.Frag} {mg : Str → Option Value} {base : Heap} {a_BOUNDS a_LONG_BOUNDS : Addr} {tL tM : Tok} {CN fI : Addr}
abbrev N__law_markings : List Str := ["_law_expression", "_law_word_here", "_law_letters_here", "_law_rows", "_law_letter", "_law_longer", "_law_row", "_law_place", "_law_later"]
theorem sc__law_markings : FnScope ["_law_expression", "_law_word_here", "_law_letters_here", "_law_rows", "_law_letter", "_law_longer", "_law_row", "_law_place", "_law_later"] ["_law_expression", "_law_word_here"] (defScope s__law_markings) := ⟨rfl, rfl, rfl, by decide +kernel, rfl, by decide +kernel, by decide +kernel⟩
theorem ok_marksL {f : Addr} {fd : FuncData} (B : Bt K mg a_BOUNDS a_LONG_BOUNDS tL tM) (Dd : Df K mg "_law_markings" s__law_markings ["_law_expression", "_law_word_here"] f fd) (G_law_near : Cl P w K mg base 22 "_law_near" ["_law_expression", "_law_place"] spNearL) (G_law_letters : Cl P w K mg base 13 "_law_letters" ["_law_expression"] (spLet2 13)) (G_law_may_end : Cl P w K mg base 22 "_law_may_end" ["_law_expression", "_law_place"] spMayL) : FnOk P w K mg base CX0 23 f fd ["_law_expression", "_law_word_here"] spMarksL := by
  refine Dd.F.ok sc__law_markings (fun vs H Q Ex h => ?_) (fun cdv A outer s H vs Q Ex hr h => ?_)
  · obtain ⟨v, z, e, rfl, _⟩ := h
    rfl
  obtain ⟨v, z, e, rfl, hE, hR, hcf, hz, q⟩ := h
  refine ⟨_, (pss_cons (ps_set (i := 2) sc__law_markings.nd rfl (Or.inr rfl) (pe_cl G_law_letters (hr.mono (by omega)) rfl (pa_cons (pv 0) pa_nil)))
    (pss_cons (ps_set (i := 3) sc__law_markings.nd rfl (Or.inl rfl) (pe_lst (pa_cons (pe_tup (pa_cons (pe_tup pa_nil) (pa_cons pe_non pa_nil))) pa_nil)))
    (pss_cons (ps_for PassesOwn.never rfl (pi_str (pv 1)) (pg_name (i := 4) sc__law_markings.nd rfl (Or.inr rfl)) (pss_cons (ps_set (i := 5) sc__law_markings.nd rfl (Or.inl rfl) (pe_lst pa_nil))
    (pss_cons (ps_for PassesOwn.never rfl (pi_list (pv 3)) (pg_tup rfl (pgs_cons (pg_name (i := 6) sc__law_markings.nd rfl (Or.inr rfl)) (pgs_cons (pg_name (i := 7) sc__law_markings.nd rfl (Or.inl rfl)) pgs_nil))) (pss_one (ps_set (i := 5) sc__law_markings.nd rfl (Or.inl rfl) (pe_op op_cat (pv 5) (pe_lc (own := [("_law_later", 8)]) (g := gName 8) rfl sc__law_markings.nd (pi_list (pe_cl G_law_near (hr.mono (by omega)) rfl (pa_cons (pv 0) (pa_cons (pv 7) pa_nil)))) (blkOk_by (N := N__law_markings) (sc := defScope s__law_markings) (by decide +kernel)) (fun _ _ _ _ _ => pg_name (i := 8) sc__law_markings.nd rfl (Or.inl rfl)) (fun _ _ _ _ _ => pts_one (pt_cmpR op_eq (pe_ix ix_str (pv 2) (pv 8) (fun _ _ => rfl)) (pv 4) (nomark _))) (fun _ _ _ _ _ => (pe_tup (pa_cons (pe_op (r := rCatA K) op_catA (pv 6) (pe_tup (pa_cons (pv 8) pa_nil))) (pa_cons (pv 8) pa_nil)))))))))
    (pss_one (ps_set (i := 3) sc__law_markings.nd rfl (Or.inl rfl) (pv 5))))))
    (pss_one (ps_ret (pe_lc (own := [("_law_row", 6), ("_law_place", 7)]) (g := gTup K 2 (gCons (gName 6) (gCons (gName 7) gNil))) rfl sc__law_markings.nd (pi_list (pv 3)) (blkOk_by (N := N__law_markings) (sc := defScope s__law_markings) (by decide +kernel)) (fun _ _ _ _ _ => pg_tup rfl (pgs_cons (pg_name (i := 6) sc__law_markings.nd rfl (Or.inl rfl)) (pgs_cons (pg_name (i := 7) sc__law_markings.nd rfl (Or.inl rfl)) pgs_nil))) (fun _ _ _ _ _ => pts_one (pt_val (pe_cl G_law_may_end (hr.mono (by omega)) rfl (pa_cons (pv 0) (pa_cons (pv 7) pa_nil))))) (fun _ _ _ _ _ => (pv 6)))))))), ?_⟩
  have dx := hE.dep
  have px := hE.pl
  refine ⟨_, rfl, v, e, rfl, hE.ok, by omega, by omega, hR, fun u H1 s1 hu1 hu2 => ?_⟩
  refine ⟨by show 0 ≤ sizeLine; decide, fun r0 hr0 => ⟨by show 2 ≤ sizeLine; decide, fun q0 hq0 => ⟨by show 1 ≤ sizeLine; decide, fun L0 hL0 => ?_⟩⟩⟩
  have t1 := same_upd (o := .tup []) hr0
  have t2 := same_upd (o := .tup [V.ref r0, V.non]) hq0
  have t3 := same_upd (o := .lst [V.ref q0]) hL0
  have hx0 : RowOf (upd (upd (upd H1 r0 (.tup [])) q0 (.tup [V.ref r0, V.non])) L0 (.lst [V.ref q0])) (V.ref q0) [] := ⟨q0, r0, rfl, t3 _ _ upd_same, t3 _ _ (t2 _ _ upd_same)⟩
  have hL1 := upd_same (H := upd (upd H1 r0 (.tup [])) q0 (.tup [V.ref r0, V.non])) (a := L0) (o := .lst [V.ref q0])
  have T3 := t1.trans (t2.trans t3)
  revert hx0 hL1 T3
  generalize upd (upd (upd H1 r0 (.tup [])) q0 (.tup [V.ref r0, V.non])) L0 (.lst [V.ref q0]) = H2
  intro hx0 hL1 T3
  refine ⟨_, rfl, z, rfl, for_strB (z := z) (fun i σ' H' => ∃ (L : Addr) (xs : List V) (o4 o5 o6 o7 : Option V), σ' = [some v, some (.str z), some (.str u), some (.ref L), o4, o5, o6, o7, none] ∧ Same H2 H' ∧ H' L = some (.lst xs) ∧ Two (RowOf H') xs (goT e [] (z.cps.toList.take i)).toList) ?_ ?_ ?_⟩
  · exact ⟨L0, _, none, none, none, none, rfl, Same.refl _, hL1, .cons hx0 .nil⟩
  · rintro i c σ' H3 hc ⟨L, xs, o4, o5, o6, o7, rfl, s3, hL, hX⟩
    have hc' : z.cps.toList[i]? = some c := by rw [Array.getElem?_toList]; exact hc
    have hone : xs.length ≤ 1 := by
      rw [hX.len]
      cases goT e [] (z.cps.toList.take i) with
      | none => exact Nat.zero_le _
      | some _ => exact Nat.le_refl _
    refine ⟨by show 0 ≤ sizeLine; decide, fun L5 hL5 => ?_⟩
    have s4 := same_upd (o := .lst []) hL5
    have hL4 := s4 _ _ hL
    have hX4 : Two (RowOf (upd H3 L5 (.lst []))) xs (goT e [] (z.cps.toList.take i)).toList := hX.mono fun x ps h => h.same s4
    have hL54 := upd_same (H := H3) (a := L5) (o := .lst [])
    have S4 := s3.trans s4
    revert hL4 hX4 hL54 S4
    generalize upd H3 L5 (.lst []) = H4
    intro hL4 hX4 hL54 S4
    refine ⟨_, rfl, L, rfl, ⟨_, SqL.of hL4⟩, for_list (K := K) (a := L) (xs := xs) (fun k σ' H' => ∃ (M : Addr) (ys : List V) (o6 o7 : Option V), σ' = [some v, some (.str z), some (.str u), some (.ref L), some (.str ⟨#[c]⟩), some (.ref M), o6, o7, none] ∧ Same H4 H' ∧ H' M = some (.lst ys) ∧ Two (RowOf H') ys (((goT e [] (z.cps.toList.take i)).toList.take k).map (stepL e c)).flatten) ?_ ?_ ?_ ?_⟩
    · exact ⟨L5, [], o6, o7, rfl, Same.refl _, hL54, .nil⟩
    · rintro k σ' H' _ ⟨M, ys, o6, o7, rfl, s5, _⟩
      exact SqL.of (s5 _ _ hL4)
    · rintro k x σ' H5 hx ⟨M, ys, o6, o7, rfl, s5, hM, hY⟩
      obtain ⟨ps, hps, hr1⟩ := hX4.get hx
      have hk0 : k = 0 := by
        have := (List.getElem?_eq_some_iff.mp hx).1
        omega
      subst hk0
      have hy0 : ys = [] := by
        have := hY.len
        exact List.length_eq_zero_iff.mp this
      subst hy0
      obtain ⟨q1, r1, rfl, hq1, hr1⟩ := hr1
      have hq5 := s5 _ _ hq1
      have hr5 := s5 _ _ hr1
      have hpsg : goT e [] (z.cps.toList.take i) = some ps := by
        cases hg : goT e [] (z.cps.toList.take i) with
        | none => rw [hg] at hps; cases hps
        | some ps' =>
          rw [hg] at hps
          exact hps
      obtain ⟨rs, e1, e2, e3⟩ := goT_ok hpsg (fun x hx => by cases hx)
      rw [List.nil_append] at e1
      subst e1
      have hpl : ps.length ≤ 20 := by
        have := congrArg List.length e2
        rw [List.length_map, List.length_take, len_toL] at this
        omega
      have htl := stT_le e3
      have hnl := nearT_len e (stT ps)
      refine ⟨q1, _, rfl, SqT.of hq5, rfl, _, _, rfl, _, _, rfl, rfl, ?_⟩
      refine ⟨_, rfl, _, rfl, _, rfl, v, e, stT ps, rfl, hE, htl, hR.pers (Pers.same (s1.trans (T3.trans (S4.trans s5)))), fun n H6 s6 hn => ⟨n, rfl, ⟨_, SqL.of hn⟩, fun D hD => ?_⟩⟩
      have hM6 := s6 _ _ hM
      have hr6 := s6 _ _ hr5
      refine lc_list (K := K) (a := n) (xs := natsV (nearT e (stT ps))) (fun m H' => Same H6 H' ∧ ∃ zs : List V, H' D = some (.lst zs) ∧ Two (RowOf H') zs ((((nearT e (stT ps)).take m).filter fun j => ltrAt e j == c).map fun j => ps ++ [j])) ⟨same_upd hD, [], upd_same, .nil⟩ (fun m H' _ h => SqL.of (h.1 _ _ hn)) (fun m y H7 hy h => ?_) (fun H7 h => ?_)
      · obtain ⟨s7, zs, hD7, hZ⟩ := h
        obtain ⟨j, hj, rfl⟩ := natsV_get hy
        have hjp := nearT_lt e _ j (List.mem_of_getElem? hj)
        have hkl := (List.getElem?_eq_some_iff.mp hj).1
        have hat : atI u.cps.toList (j : Int) = some (ltrAt e j) := by rw [hu1]; exact atI_nat (ltr_get hjp)
        have hzl : zs.length ≤ 8 := by
          have := hZ.len
          rw [List.length_map] at this
          have h2 := List.length_filter_le (fun j => ltrAt e j == c) ((nearT e (stT ps)).take m)
          rw [List.length_take] at h2
          omega
        refine ⟨rfl, _, rfl, _, rfl, u, (j : Int), ltrAt e j, rfl, rfl, by rw [hu2]; exact Nat.le_trans px (by decide), hat, _, rfl, rfl, _, rfl, ?_⟩
        rw [str_one, take_snoc hj, List.filter_append, List.map_append]
        cases hcj : (ltrAt e j == c) with
        | false =>
          refine iteF ⟨s7, zs, hD7, ?_⟩
          rw [List.filter_cons_of_neg (p := fun j => ltrAt e j == c) (by rw [hcj]; exact Bool.false_ne_true)]
          show Two (RowOf H7) zs (_ ++ [])
          rw [List.append_nil]
          exact hZ
        | true =>
          rw [List.filter_cons_of_pos (p := fun j => ltrAt e j == c) hcj]
          have tail : ∀ (r2 q2 : Addr) (H8 : Hp), Same H7 H8 → H8 r2 = some (.tup (natsV (ps ++ [j]))) → H8 q2 = none → ∃ acc, (upd H8 q2 (.tup [V.ref r2, V.int (j : Int)])) D = some (.lst acc) ∧ acc.length < sizeLine ∧ Same H6 (upd (upd H8 q2 (.tup [V.ref r2, V.int (j : Int)])) D (.lst (acc ++ [V.ref q2]))) ∧ ∃ zs : List V, (upd (upd H8 q2 (.tup [V.ref r2, V.int (j : Int)])) D (.lst (acc ++ [V.ref q2]))) D = some (.lst zs) ∧ Two (RowOf (upd (upd H8 q2 (.tup [V.ref r2, V.int (j : Int)])) D (.lst (acc ++ [V.ref q2])))) zs ((((nearT e (stT ps)).take m).filter fun j => ltrAt e j == c).map (fun j => ps ++ [j]) ++ [ps ++ [j]]) := fun r2 q2 H8 s8 hr2 hq2 => by
            have s9 := same_upd (o := .tup [V.ref r2, V.int (j : Int)]) hq2
            have hD9 := s9 _ _ (s8 _ _ hD7)
            refine ⟨zs, hD9, Nat.lt_of_le_of_lt hzl (by decide), fun b o hb => by rw [upd_ne (ne_of_none hb hD)]; exact s9 _ _ (s8 _ _ (s7 _ _ hb)), zs ++ [V.ref q2], upd_same, Two.app (hZ.mono fun x ps h => ((h.same s8).same s9).upd hD9) (.cons (RowOf.upd hD9 ⟨q2, r2, rfl, ?_, s9 _ _ hr2⟩) .nil)⟩
            rw [upd_same, stT_snoc]
            rfl
          refine iteT ⟨_, rfl, _, rfl, by show 1 ≤ sizeLine; decide, fun t9 ht9 => ?_⟩
          have s8 := same_upd (o := .tup [V.int (j : Int)]) ht9
          refine ⟨r1, t9, _, _, rfl, rfl, SqT.of (s8 _ _ (s7 _ _ hr6)), SqT.of upd_same, ?_, fun c0 => ?_, fun _ c0 => absurd c0 (by simp), fun _ _ x hx => ?_⟩
          · rw [natsV_len]
            exact Nat.le_trans (m := 21) (by show ps.length + 1 ≤ 21; omega) (by decide)
          · refine ⟨_, rfl, by show 2 ≤ sizeLine; decide, fun q2 hq2 => tail t9 q2 _ s8 ?_ hq2⟩
            rw [upd_same, natsV_none c0]
            rfl
          · refine ⟨_, rfl, by show 2 ≤ sizeLine; decide, fun q2 hq2 => tail x q2 _ (s8.trans (same_upd hx)) ?_ hq2⟩
            rw [upd_same, ← natsV_app]
            rfl
      · obtain ⟨s7, zs, hD7, hZ⟩ := h
        rw [natsV_len, List.take_length] at hZ
        have hzl : zs.length ≤ 8 := by
          have := hZ.len
          rw [List.length_map] at this
          have h2 := List.length_filter_le (fun j => ltrAt e j == c) (nearT e (stT ps))
          omega
        refine ⟨M, D, [], zs, rfl, rfl, s7 _ _ hM6, hD7, Nat.le_trans (m := 8) (by show 0 + zs.length ≤ 8; omega) (by decide), fun M2 hM2 => ?_⟩
        have s8 := same_upd (o := .lst ([] ++ zs)) hM2
        refine ⟨M2, zs, _, _, rfl, s5.trans (s6.trans (s7.trans s8)), upd_same, ?_⟩
        rw [hpsg]
        show Two _ zs ([stepL e c ps].flatten)
        rw [List.flatten_cons, List.flatten_nil, List.append_nil]
        exact hZ.mono fun x ps h => h.same s8
    · rintro σ' H5 ⟨M, ys, o6, o7, rfl, s5, hM, hY⟩
      rw [hX4.len, List.take_length, ← goT_steps hcf, ← take_snoc hc'] at hY
      exact ⟨_, rfl, M, ys, _, _, _, _, rfl, S4.trans s5, hM, hY⟩
  · rintro σ' H3 ⟨L, xs, o4, o5, o6, o7, rfl, s3, hL, hX⟩
    rw [show z.cps.size = z.cps.toList.length from Array.length_toList.symm, List.take_length] at hX
    refine ⟨_, rfl, L, rfl, ⟨_, SqL.of hL⟩, fun D hD => ?_⟩
    refine lc_list (K := K) (a := L) (xs := xs) (fun m H' => Same H3 H' ∧ ∃ zs : List V, H' D = some (.lst zs) ∧ zs.length ≤ m ∧ Two (PlsOf H') zs (((goT e [] z.cps.toList).toList.take m).filter fun ps => endB e (stT ps))) ⟨same_upd hD, [], upd_same, Nat.le_refl _, .nil⟩ (fun m H' _ h => SqL.of (h.1 _ _ hL)) (fun m x H4 hx h => ?_) (fun H4 h => ?_)
    · obtain ⟨s4, zs, hD4, hzl, hZ⟩ := h
      obtain ⟨ps, hps, q1, r1, rfl, hq1, hr1⟩ := hX.get hx
      refine ⟨q1, _, rfl, SqT.of (s4 _ _ hq1), rfl, _, _, rfl, _, _, rfl, rfl, rfl, ?_⟩
      refine ⟨_, rfl, _, rfl, v, e, stT ps, rfl, hE, hR.pers (Pers.same (s1.trans (T3.trans (s3.trans s4)))), fun H5 s5 => ⟨_, rfl, ?_⟩⟩
      rw [take_snoc hps, List.filter_append]
      have hD5 := s5 _ _ hD4
      have hm1 : m ≤ 1 := by
        have := (List.getElem?_eq_some_iff.mp hps).1
        have := opt_len (goT e [] z.cps.toList)
        omega
      cases hb : endB e (stT ps) with
      | true =>
        rw [List.filter_cons_of_pos (p := fun ps => endB e (stT ps)) hb]
        refine iteT ⟨_, rfl, zs, hD5, Nat.lt_of_le_of_lt (m := 1) (by omega) (by decide), fun b o hb => by rw [upd_ne (ne_of_none hb hD)]; exact s5 _ _ (s4 _ _ hb), zs ++ [V.ref r1], upd_same, by rw [List.length_append]; exact Nat.succ_le_succ hzl, ?_⟩
        exact Two.app (hZ.mono fun x ps h => (h.same s5).upd hD5) (.cons (PlsOf.upd hD5 ⟨r1, rfl, s5 _ _ (s4 _ _ hr1)⟩) .nil)
      | false =>
        rw [List.filter_cons_of_neg (p := fun ps => endB e (stT ps)) (by rw [hb]; exact Bool.false_ne_true)]
        refine iteF ⟨s4.trans s5, zs, hD5, Nat.le_succ_of_le hzl, ?_⟩
        show Two _ zs (_ ++ [])
        rw [List.append_nil]
        exact hZ.mono fun x ps h => h.same s5
    · obtain ⟨s4, zs, hD4, hzl, hZ⟩ := h
      rw [hX.len, List.take_length] at hZ
      exact q D zs H4 (s1.trans (T3.trans (s3.trans s4))) hD4 hZ
abbrev N__law_word : List Str := ["_law_stream_here", "_law_expression", "_law_letters_here", "_law_word_here", "_law_place", "_law_turn", "_law_near_here"]
theorem sc__law_word : FnScope ["_law_stream_here", "_law_expression", "_law_letters_here", "_law_word_here", "_law_place", "_law_turn", "_law_near_here"] ["_law_stream_here", "_law_expression"] (defScope s__law_word) := ⟨rfl, rfl, rfl, by decide +kernel, rfl, by decide +kernel, by decide +kernel⟩
theorem ok_wordL {f : Addr} {fd : FuncData} (B : Bt K mg a_BOUNDS a_LONG_BOUNDS tL tM) (Dd : Df K mg "_law_word" s__law_word ["_law_stream_here", "_law_expression"] f fd) (G_law_next : Cl P w K mg base 1 "_law_next" ["_law_stream_here", "_law_many"] spNext) (G_law_near : Cl P w K mg base 22 "_law_near" ["_law_expression", "_law_place"] spNearL) (G_law_letters : Cl P w K mg base 13 "_law_letters" ["_law_expression"] (spLet2 13)) : FnOk P w K mg base CX0 23 f fd ["_law_stream_here", "_law_expression"] spWordD := by
  refine Dd.F.ok sc__law_word (fun vs H Q Ex h => ?_) (fun cdv A outer s H vs Q Ex hr h => ?_)
  · obtain ⟨a, v, e, rfl, _⟩ := h
    rfl
  obtain ⟨a, v, e, rfl, st, hE, hR, q⟩ := h
  refine ⟨_, (pss_cons (ps_set (i := 2) sc__law_word.nd rfl (Or.inl rfl) (pe_cl G_law_letters (hr.mono (by omega)) rfl (pa_cons (pv 1) pa_nil)))
    (pss_cons (ps_set (i := 3) sc__law_word.nd rfl (Or.inl rfl) pe_str)
    (pss_cons (ps_set (i := 4) sc__law_word.nd rfl (Or.inl rfl) pe_non)
    (pss_cons (ps_for PassesOwn.never rfl (pi_range1 rfl B.b_range (pa_cons (pe_cl G_law_next (hr.mono (by omega)) rfl (pa_cons (pv 0) (pa_cons pe_int pa_nil))) pa_nil)) (pg_name (i := 5) sc__law_word.nd rfl (Or.inl rfl)) (pss_cons (ps_set (i := 6) sc__law_word.nd rfl (Or.inl rfl) (pe_cl G_law_near (hr.mono (by omega)) rfl (pa_cons (pv 1) (pa_cons (pv 4) pa_nil))))
    (pss_one (ps_if (pt_truth (pv 6) (by intro _; rfl)) (pss_cons (ps_set (i := 4) sc__law_word.nd rfl (Or.inl rfl) (pe_ix (r := rIxL K) ix_list (pv 6) (pe_cl G_law_next (hr.mono (by omega)) rfl (pa_cons (pv 0) (pa_cons (pe_callB (r := rLenOf K) call_lenK rfl B.b_len boot_len (pa_cons (pv 6) pa_nil)) pa_nil))) (fun _ _ => rfl)))
    (pss_one (ps_set (i := 3) sc__law_word.nd rfl (Or.inl rfl) (pe_op op_add_str (pv 3) (pe_ix ix_str (pv 2) (pv 4) (fun _ _ => rfl)))))) pss_nil))))
    (pss_cons (ps_if (pt_cmpR op_eq (pe_cl G_law_next (hr.mono (by omega)) rfl (pa_cons (pv 0) (pa_cons pe_int pa_nil))) pe_int (nomark _)) (pss_one (ps_set (i := 3) sc__law_word.nd rfl (Or.inl rfl) (pe_join pe_str (pe_lc (own := [("_law_turn", 5)]) (g := gName 5) (tt := tYes) rfl sc__law_word.nd (pi_range1 rfl B.b_range (pa_cons (pe_cl G_law_next (hr.mono (by omega)) rfl (pa_cons (pv 0) (pa_cons pe_int pa_nil))) pa_nil)) (blkOk_by (N := N__law_word) (sc := defScope s__law_word) (by decide +kernel)) (fun _ _ _ _ _ => pg_name (i := 5) sc__law_word.nd rfl (Or.inl rfl)) (fun _ _ _ _ _ => pts_nil) (fun _ _ _ _ _ => (pe_ix ix_str pe_str (pe_cl G_law_next (hr.mono (by omega)) rfl (pa_cons (pv 0) (pa_cons pe_int pa_nil))) (fun _ _ => rfl))))))) pss_nil)
    (pss_one (ps_ret (pv 3)))))))), ?_⟩
  have dx := hE.dep
  have px := hE.pl
  refine ⟨_, rfl, v, e, rfl, hE.ok, by omega, by omega, hR, fun u H1 s1 hu1 hu2 => ?_⟩
  have g1 := Go.same st s1
  refine ⟨_, rfl, a, 7, rfl, g1.st, by decide, by decide, fun d H2 d0 d1 g2 => ?_⟩
  have G2 := g1.trans g2
  refine ⟨d, rfl, by omega, by omega, for_range (lo := 0) (n := d.toNat) (fun i σ' H' => ∃ (z : Str) (t : Nat) (o5 o6 : Option V), σ' = [some (.ref a), some v, some (.str u), some (.str z), some (plV t), o5, o6] ∧ Go a H H' ∧ z.length ≤ i ∧ WordOk z ∧ t ≤ e.places) ?_ ?_ ?_⟩
  · exact ⟨sNo, 0, none, none, rfl, G2, Nat.le_refl _, (fun c hc => by cases hc), Nat.zero_le _⟩
  · rintro i σ' H3 hi ⟨z, t, o5, o6, rfl, G3, hz, hw, ht⟩
    refine ⟨_, rfl, _, rfl, v, e, t, rfl, hE, ht, hR.pers G3.pers, fun n H4 s4 hn => ?_⟩
    have G4 := G3.trans (Go.same G3.st s4)
    have hnl := nearT_len e t
    have S5 : ∀ {H5}, Go a H4 H5 → SqL K H5 n (natsV (nearT e t)) ∨ n = a := fun g => by
      by_cases c : n = a
      · exact .inr c
      · exact .inl (SqL.of (g.keep _ _ hn c))
    have hna : n ≠ a := fun c => by
      obtain ⟨l0, c0, k0, n0, w0⟩ := G4.st
      have := w0.1
      rw [← c, hn] at this
      have := HO.lst.inj (Option.some.inj this)
      cases hx : nearT e t with
      | nil => rw [hx] at this; cases this
      | cons x xs =>
        rw [hx] at this
        have := (List.cons.inj this).1
        cases this
    by_cases hn0 : nearT e t = []
    · exact ⟨_, rfl, false, .inl ⟨_, SqL.of hn, by rw [hn0]; rfl⟩, iteF ⟨z, t, _, _, rfl, G4, Nat.le_succ_of_le hz, hw, ht⟩⟩
    · have hpos : 0 < (nearT e t).length := List.length_pos_iff.mpr hn0
      refine ⟨_, rfl, true, .inl ⟨_, SqL.of hn, ?_⟩, iteT ?_⟩
      · cases hx : nearT e t with
        | nil => exact absurd hx hn0
        | cons x xs => rfl
      refine ⟨_, rfl, _, rfl, _, rfl, _, (nearT e t).length, rfl, .inl ⟨_, SqL.of hn, (natsV_len _).symm⟩, a, _, rfl, G4.st, by omega, by omega, fun d6 H6 e0 e1 g6 => ?_⟩
      obtain ⟨m, rfl⟩ : ∃ m : Nat, d6 = (m : Int) := ⟨d6.toNat, by omega⟩
      obtain ⟨j, hj⟩ : ∃ j, (nearT e t)[m]? = some j := ⟨_, List.getElem?_eq_getElem (by omega)⟩
      have hjp := nearT_lt e _ j (List.mem_of_getElem? hj)
      have hcl : 97 ≤ ltrAt e j ∧ ltrAt e j ≤ 100 := lts_all e hE.ok _ (List.mem_of_getElem? (ltr_get hjp))
      have hat : atI u.cps.toList (j : Int) = some (ltrAt e j) := by rw [hu1]; exact atI_nat (ltr_get hjp)
      refine ⟨n, _, (m : Int), .int (j : Int), rfl, rfl, SqL.of (g6.keep _ _ hn hna), at_of rfl (by unfold natsV; rw [List.getElem?_map, hj]; rfl), ?_⟩
      have hzl : (z ++ (⟨#[ltrAt e j]⟩ : Str)).length = z.length + 1 := by
        rw [← len_toL, app_toL, List.length_append, len_toL]
        rfl
      refine ⟨_, rfl, _, rfl, _, rfl, u, (j : Int), ltrAt e j, rfl, rfl, by rw [hu2]; exact Nat.le_trans px (by decide), hat, z, _, rfl, rfl, Nat.le_trans (m := 1000) (by show z.length + 1 ≤ 1000; omega) (by decide), ?_⟩
      refine ⟨_, j + 1, _, _, rfl, G4.trans g6, by omega, fun c hc => ?_, hjp⟩
      rw [app_toL] at hc
      rcases List.mem_append.mp hc with hc | hc
      · exact hw c hc
      · rw [List.mem_singleton.mp (show c ∈ [ltrAt e j] from hc)]
        exact hcl
  · rintro σ' H3 ⟨z, t, o5, o6, rfl, G3, hz, hw, ht⟩
    refine ⟨_, rfl, a, 3, rfl, G3.st, by decide, by decide, fun d6 H6 e0 e1 g6 => ?_⟩
    have G6 := G3.trans g6
    refine ⟨rfl, _, rfl, ite2 (fun _ => ?_) (fun _ => ?_)⟩
    · refine ⟨⟨_, rfl⟩, _, rfl, a, 7, rfl, G6.st, by decide, by decide, fun d7 H7 f0 f1 g7 => ?_⟩
      have G7 := G6.trans g7
      refine ⟨d7, rfl, by omega, by omega, fun D hD => ?_⟩
      have hDa : D ≠ a := (G7.st.ne hD).symm
      refine lc_range (lo := 0) (n := d7.toNat) (fun k H8 => Go a H7 H8 ∧ ∃ cs : List Nat, cs.length = k ∧ (∀ c ∈ cs, 97 ≤ c ∧ c ≤ 100) ∧ H8 D = some (.lst ((cs.map fun c => (⟨#[c]⟩ : Str)).map V.str))) ⟨Go.new G7.st hD, [], rfl, (fun c hc => by cases hc), upd_same⟩ (fun k H8 hk h => ?_) (fun H8 h => ?_)
      · obtain ⟨g8, cs, hl, hcs, hD8⟩ := h
        refine ⟨rfl, tyes ⟨_, rfl, a, 4, rfl, g8.st, by decide, by decide, fun d9 H9 a0 a1 g9 => ?_⟩⟩
        obtain ⟨c, k1, k2⟩ := at_abcd a0 a1
        have hD9 := g9.keep _ _ hD8 hDa
        refine ⟨_, d9, c, rfl, rfl, by decide, k1, _, hD9, ?_, ?_, cs ++ [c], by rw [List.length_append, hl]; rfl, fun x hx => ?_, ?_⟩
        · rw [List.length_map, List.length_map]
          exact Nat.lt_of_le_of_lt (m := 10) (by omega) (by decide)
        · exact (g8.trans g9).loc hD
        · rcases List.mem_append.mp hx with hx | hx
          · exact hcs x hx
          · rw [List.mem_singleton.mp hx]; exact k2
        · rw [upd_same, List.map_append, List.map_append]
          rfl
      · obtain ⟨g8, cs, hl, hcs, hD8⟩ := h
        have hlen : (Txt.join sNo (cs.map fun c => (⟨#[c]⟩ : Str))).cps.toList = cs := by
          rw [join_flat2, List.map_map]
          have := sing_flat id cs
          rw [List.map_id] at this
          exact this
        have e0 : ((cs.map fun c => (⟨#[c]⟩ : Str)).map fun z : Str => z.length).sum = cs.length := ones_sum (fun c => (⟨#[c]⟩ : Str)) (fun _ => rfl) cs
        have e1 : sNo.length = 0 := rfl
        refine ⟨sNo, D, _, rfl, rfl, .inl (SqL.of hD8), by rw [e0, e1, Nat.mul_zero]; omega, ?_⟩
        refine ⟨_, rfl, q _ H8 (G7.trans g8) ?_ ?_⟩
        · rw [← len_toL, hlen]
          omega
        · intro c hc
          rw [hlen] at hc
          exact hcs c hc
    · exact ⟨_, rfl, q z H6 G6 (by omega) hw⟩
abbrev N__law_read : List Str := ["_law_reader", "_law_word_here", "_law_letter"]
theorem sc__law_read : FnScope ["_law_reader", "_law_word_here", "_law_letter"] ["_law_reader", "_law_word_here"] (defScope s__law_read) := ⟨rfl, rfl, rfl, by decide +kernel, rfl, by decide +kernel, by decide +kernel⟩
theorem ok_readL {CR CS f : Addr} {fd : FuncData} (B : Bt K mg a_BOUNDS a_LONG_BOUNDS tL tM) (Dd : Df K mg "_law_read" s__law_read ["_law_reader", "_law_word_here"] f fd) (TNotPossible : ExNotPossible.Txt K mg CN fI) (GReader_act : MtX P w K mg base 4 CR "act" ["self", "command"] (spAct CR CS CN)) : FnOk P w K mg base CX0 5 f fd ["_law_reader", "_law_word_here"] (spReadL CR CS) := by
  refine Dd.F.ok sc__law_read (fun vs H Q Ex h => ?_) (fun cdv A outer s H vs Q Ex hr h => ?_)
  · obtain ⟨p, o, jL, rL, v, z, e, rfl, _⟩ := h
    rfl
  obtain ⟨p, o, jL, rL, v, z, e, rfl, hS, h40, hz, hw, q⟩ := h
  refine ⟨_, (pss_cons (ps_for PassesOwn.never rfl (pi_str (pv 1)) (pg_name (i := 2) sc__law_read.nd rfl (Or.inl rfl)) (pss_one (ps_try_onlyN (Wout := fun _ _ _ _ => False) rfl rfl ⟨rfl, by decide, .inl TNotPossible.gC⟩ takes0 (fun W pn xe tk _ => (pss_one (ps_expr (pe_mtS GReader_act tk (hr.mono (by omega)) (pv 0) (pa_cons (pe_tup (pa_cons pe_str (pa_cons (pv 2) pa_nil))) pa_nil))))) (fun a oe cls d pn hz hf => (pss_one (ps_ret pe_bl))))))
    (pss_one (ps_ret pe_bl))), ?_⟩
  refine ⟨_, rfl, z, rfl, for_strB (z := z) (fun i σ' H' => ∃ (o2 : Option V) (js : List V) (pss : List (List Nat)) (ps : List Nat), σ' = [some (.ref p), some (.str z), o2] ∧ KeepR jL rL H H' ∧ RdS CR CS H' p o jL rL v e js (pss ++ [ps]) ∧ goT e [] (z.cps.toList.take i) = some ps ∧ js.length ≤ i ∧ pss.length ≤ i) ?_ ?_ ?_⟩
  · exact ⟨none, [], [], [], rfl, KeepR.same (Same.refl H), hS, rfl, Nat.le_refl _, Nat.le_refl _⟩
  · rintro i c σ' H1 hc ⟨o2, js, pss, ps, rfl, k1, S1, hg, l1, l2⟩
    have hc' : z.cps.toList[i]? = some c := by rw [Array.getElem?_toList]; exact hc
    have hi : i < z.length := by rw [← len_toL]; exact (List.getElem?_eq_some_iff.mp hc').1
    obtain ⟨rs, e1, e2, e3⟩ := goT_ok hg (fun x hx => by cases hx)
    rw [List.nil_append] at e1
    subst e1
    have hpl : ps.length ≤ 1000 := by
      have := congrArg List.length e2
      rw [List.length_map, List.length_take] at this
      omega
    obtain ⟨dx, sp, rs, h1, _⟩ := id S1.ex
    refine ⟨_, rfl, p, _, _, rfl, h1, rdF_none _ _ _ _ (by decide +kernel) (by decide +kernel) (by decide +kernel) (by decide +kernel), ?_⟩
    refine ⟨_, rfl, by show 2 ≤ sizeLine; decide, fun t ht => ?_⟩
    have s2 := same_upd (o := .tup [V.str "read", V.str ⟨#[c]⟩]) ht
    have hsn : goT e [] (z.cps.toList.take (i + 1)) = actT e ps (some c) := by
      rw [take_snoc hc', goT_snoc, hg]
      rfl
    refine ⟨p, o, jL, rL, t, v, e, js, pss, ps, some c, rfl, S1.same s2, h40, ⟨e3, hpl⟩, by omega, by omega, hw c (List.mem_of_getElem? hc'), upd_same, fun hn d H2 s3 hd => ?_, fun ps' hp H2 k2 S2 => ?_⟩
    · have u := same_upd (o := .xd [(("why" : Str), V.str (whyC (some c)))]) hd
      refine ⟨true, teNotPossible TNotPossible, fun _ a0 _ => ?_, fun z => nomatch z⟩
      refine (q _ (k1.trans (KeepR.same (s2.trans (s3.trans u))))).1 ?_
      rw [← List.take_append_drop (i + 1) z.cps.toList, goT_app, hsn, hn]
      rfl
    · refine ⟨_, js ++ [V.ref t], pss ++ [ps], ps', rfl, k1.trans ((KeepR.same s2).trans k2), S2, by rw [hsn]; exact hp, ?_, ?_⟩
      · rw [List.length_append]
        exact Nat.succ_le_succ l1
      · rw [List.length_append]
        exact Nat.succ_le_succ l2
  · rintro σ' H1 ⟨o2, js, pss, ps, rfl, k1, S1, hg, l1, l2⟩
    rw [show z.cps.size = z.cps.toList.length from Array.length_toList.symm, List.take_length] at hg
    exact (q H1 k1).2 ps js pss hg S1
abbrev N_law : List Str := ["_law_script", "_law_stream_here", "_law_expression", "_law_turn", "_law_word_here", "_law_reader", "_law_told", "_law_markings_here"]
theorem sc_law : FnScope ["_law_script", "_law_stream_here", "_law_expression", "_law_turn", "_law_word_here", "_law_reader", "_law_told", "_law_markings_here"] ["_law_script"] (defScope s_law) := ⟨rfl, rfl, rfl, by decide +kernel, rfl, by decide +kernel, by decide +kernel⟩
theorem ok_law {CR CS f : Addr} {fd : FuncData} (B : Bt K mg a_BOUNDS a_LONG_BOUNDS tL tM) (Dd : Df K mg "law" s_law ["_law_script"] f fd) (G_law_stream : Cl P w K mg base 1 "_law_stream" ["_law_script"] (spStream K)) (G_law_sure : Cl P w K mg base 24 "_law_sure" ["_law_stream_here"] spSureD) (G_law_word : Cl P w K mg base 23 "_law_word" ["_law_stream_here", "_law_expression"] spWordD) (G_law_read : Cl P w K mg base 5 "_law_read" ["_law_reader", "_law_word_here"] (spReadL CR CS)) (G_law_markings : Cl P w K mg base 23 "_law_markings" ["_law_expression", "_law_word_here"] spMarksL) (G_law_equal : Cl P w K mg base 5 "_law_equal" ["_law_actual", "_law_due"] (spEqual 4)) (MReader : Ck P w K mg base 89 "Reader" ["self", "expression"] (spRdInit CR CS) CR) (GReader_may_end : Mt P w K mg base 2 CR "may_end" ["self"] (spMayEnd CR CS)) (GReader_places : Mt P w K mg base 1 CR "places" ["self"] (spPlsR CR CS)) : FnOk P w K mg base CX0 91 f fd ["_law_script"] (spLaw K) := by
  refine Dd.F.ok sc_law (fun vs H Q Ex h => ?_) (fun cdv A outer s H vs Q Ex hr h => ?_)
  · obtain ⟨sa, ns, rfl, _⟩ := h
    rfl
  obtain ⟨sa, ns, rfl, hsq, h63, q⟩ := h
  refine ⟨_, (pss_cons (ps_set (i := 1) sc_law.nd rfl (Or.inl rfl) (pe_cl G_law_stream (hr.mono (by omega)) rfl (pa_cons (pv 0) pa_nil)))
    (pss_cons (ps_set (i := 2) sc_law.nd rfl (Or.inl rfl) (pe_cl G_law_sure (hr.mono (by omega)) rfl (pa_cons (pv 1) pa_nil)))
    (pss_cons (ps_for PassesOwn.never rfl (pi_range1 rfl B.b_range (pa_cons pe_int pa_nil)) (pg_name (i := 3) sc_law.nd rfl (Or.inl rfl)) (pss_cons (ps_set (i := 4) sc_law.nd rfl (Or.inl rfl) (pe_cl G_law_word (hr.mono (by omega)) rfl (pa_cons (pv 1) (pa_cons (pv 2) pa_nil))))
    (pss_cons (ps_set (i := 5) sc_law.nd rfl (Or.inl rfl) (pe_mk MReader (hr.mono (by omega)) rfl (pa_cons (pv 2) pa_nil)))
    (C8.pss_cut (ps_set (i := 6) sc_law.nd rfl (Or.inl rfl) (pe_and (pe_cl G_law_read (hr.mono (by omega)) rfl (pa_cons (pv 5) (pa_cons (pv 4) pa_nil))) (pe_one (pe_mtC0 GReader_may_end (hr.mono (by omega)) (pv 5)))))
    (pss_cons (ps_set (i := 7) sc_law.nd rfl (Or.inl rfl) (pe_cl G_law_markings (hr.mono (by omega)) rfl (pa_cons (pv 2) (pa_cons (pv 4) pa_nil))))
    (pss_cons (ps_if (PW.pt (pw_or (pt_not (pt_val (pe_cl G_law_equal (hr.mono (by omega)) rfl (pa_cons (pv 6) (pa_cons (pe_cmpR op_gt (pe_callB (r := rLenOf K) call_lenK rfl B.b_len boot_len (pa_cons (pv 7) pa_nil)) pe_int (nomark _)) pa_nil))))) (pw_or1 (pt_cmpR op_gt (pe_callB (r := rLenOf K) call_lenK rfl B.b_len boot_len (pa_cons (pv 7) pa_nil)) pe_int (nomark _))))) (pss_one (ps_ret pe_bl)) pss_nil)
    (pss_one (ps_if (PW.pt (pw_and (pt_truth (pv 6) (by intro _; rfl)) (pw_and1 (pt_not (pt_val (pe_cl G_law_equal (hr.mono (by omega)) rfl (pa_cons (pe_mtC0 GReader_places (hr.mono (by omega)) (pv 5)) (pa_cons (pe_ix (r := rIxL K) ix_list (pv 7) pe_int (fun _ _ => rfl)) pa_nil)))))))) (pss_one (ps_ret pe_bl)) pss_nil))))))))
    (pss_one (ps_ret pe_bl))))), ?_⟩
  refine ⟨_, rfl, sa, ns, rfl, hsq, h63, fun a H1 s1 ha st1 => ?_⟩
  refine ⟨_, rfl, a, rfl, st1, fun v H2 e g2 r2 hE he1 he4 hcf => ?_⟩
  have h40 : e.places ≤ 40 := by omega
  refine ⟨3, rfl, by decide, by decide, for_range (lo := 0) (n := 3) (fun i σ' H' => ∃ o3 o4 o5 o6 o7 : Option V, σ' = [some (.ref sa), some (.ref a), some v, o3, o4, o5, o6, o7] ∧ Go a H2 H') ?_ ?_ ?_⟩
  · exact ⟨none, none, none, none, none, rfl, Go.refl g2.st⟩
  · rintro i σ' H3 hi ⟨o3, o4, o5, o6, o7, rfl, G3⟩
    refine ⟨_, rfl, _, rfl, a, v, e, rfl, G3.st, hE, r2.pers G3.pers, fun z H4 g4 hz hw => ?_⟩
    have G4 := G3.trans g4
    have r4 := r2.pers G4.pers
    refine ⟨_, rfl, fun p dx hp hdx hne => ?_⟩
    have sm : Same H4 (upd (upd H4 dx (.own p)) p (.ins CR dx [])) := fun b o hb => by
      rw [upd_ne (ne_of_none hb hp), upd_ne (ne_of_none hb hdx)]
      exact hb
    have hp1 := upd_same (H := upd H4 dx (.own p)) (a := p) (o := .ins CR dx [])
    revert sm hp1
    generalize hHm : upd (upd H4 dx (.own p)) p (.ins CR dx []) = Hm
    intro sm hp1
    have toS : ∀ {H'}, ButP p Hm H' → Same H4 H' := fun b c o hb => b _ _ (sm _ _ hb) (ne_of_none hb hp)
    refine ⟨p, dx, v, e, rfl, hp1, hE, r4.pers (Pers.same sm), hcf, fun H5 o jL rL b5 j0 r0 S5 => ⟨rfl, ?_⟩⟩
    have s5 := toS b5
    have toR : ∀ {H'}, KeepR jL rL H5 H' → Same H4 H' := fun k b u hb => k _ _ (s5 _ _ hb) (ne_of_none (sm _ _ hb) j0) (ne_of_none (sm _ _ hb) r0)
    refine ⟨fun σ' H' => ∃ (b : Bool), σ' = [some (.ref sa), some (.ref a), some v, some (.int (0 + (i : Int))), some (.str z), some (.ref p), some (.bl b), o7] ∧ Same H4 H' ∧ ((b = false ∧ marksOf e z.cps.toList = []) ∨ (b = true ∧ ∃ ps js pss, marksOf e z.cps.toList = [ps] ∧ ps.length ≤ 1000 ∧ RdS CR CS H' p o jL rL v e js (pss ++ [ps]))), ?_, ?_⟩
    · refine ⟨_, rfl, _, rfl, p, o, jL, rL, v, z, e, rfl, S5, h40, by omega, hw, fun H6 k6 => ⟨fun hn => ⟨false, rfl, iteF ?_⟩, fun ps js pss hg S6 => ⟨true, rfl, iteT ?_⟩⟩⟩
      · exact ⟨false, rfl, toR k6, .inl ⟨rfl, marks_none hn⟩⟩
      · obtain ⟨dx2, sp2, rs2, h1, _⟩ := id S6.ex
        have hpl := (goT_len2 hg)
        rw [len_toL] at hpl
        refine ⟨_, rfl, p, _, _, rfl, h1, rdF_none _ _ _ _ (by decide +kernel) (by decide +kernel) (by decide +kernel) (by decide +kernel), p, o, jL, rL, v, e, js, pss, ps, rfl, S6, ?_⟩
        have hm := marks_some hg
        cases hb : endB e (stT ps) with
        | true =>
          rw [hb, if_pos rfl] at hm
          exact ⟨true, rfl, toR k6, .inr ⟨rfl, ps, js, pss, hm, by omega, S6⟩⟩
        | false =>
          rw [hb, if_neg Bool.false_ne_true] at hm
          exact ⟨false, rfl, toR k6, .inl ⟨rfl, hm⟩⟩
    rintro σ' H6 ⟨b, rfl, s6, hb⟩
    refine ⟨_, rfl, _, rfl, v, z, e, rfl, hE, r4.pers (Pers.same s6), hcf, by omega, fun m xs H7 s7 hm7 hX => ?_⟩
    have hgo : ∀ {H'}, Same H7 H' → Go a H2 H' := fun s => G4.trans (Go.same G4.st (s6.trans (s7.trans s)))
    rcases hb with ⟨rfl, hme⟩ | ⟨rfl, ps, js, pss, hme, hpl, S6⟩
    · rw [hme] at hX
      have hx0 : xs = [] := List.length_eq_zero_iff.mp hX.len
      subst hx0
      refine ⟨_, rfl, _, rfl, _, 0, rfl, .inl ⟨_, SqL.of hm7, rfl⟩, _, _, rfl, rfl, .bl false, .bl _, .bl false, 0, rfl, by decide, .bl _, .bl false, fun H8 s8 => ⟨true, rfl, ?_⟩⟩
      have hm8 := s8 _ _ hm7
      refine iteF ⟨_, rfl, _, 0, rfl, .inl ⟨_, SqL.of hm8, rfl⟩, _, _, rfl, rfl, _, rfl, iteF ?_⟩
      exact ⟨_, rfl, false, rfl, iteF ⟨_, _, _, _, _, rfl, hgo s8⟩⟩
    · rw [hme] at hX
      match xs, hX with
      | [x], .cons hx _ =>
      obtain ⟨r, rfl, hr⟩ := hx
      refine ⟨_, rfl, _, rfl, _, 1, rfl, .inl ⟨_, SqL.of hm7, rfl⟩, _, _, rfl, rfl, .bl true, .bl _, .bl true, 0, rfl, by decide, .bl _, .bl true, fun H8 s8 => ⟨true, rfl, ?_⟩⟩
      have hm8 := s8 _ _ hm7
      refine iteF ⟨_, rfl, _, 1, rfl, .inl ⟨_, SqL.of hm8, rfl⟩, _, _, rfl, rfl, _, rfl, iteF ?_⟩
      have S8 := S6.same (s7.trans s8)
      obtain ⟨dx2, sp2, rs2, h1, _⟩ := id S8.ex
      refine ⟨_, rfl, true, rfl, iteT ?_⟩
      refine ⟨_, rfl, p, _, _, rfl, h1, rdF_none _ _ _ _ (by decide +kernel) (by decide +kernel) (by decide +kernel) (by decide +kernel), p, o, jL, rL, v, e, js, pss, ps, rfl, S8, fun r2 hr2 => ?_⟩
      refine ⟨_, rfl, m, _, 0, _, rfl, rfl, SqL.of hm8, at_zero, .ref r2, .ref r, _, 1, rfl, by decide, plN_rep hr2 (by omega), plN_rep (s8 _ _ hr) (by omega), fun H9 s9 => ⟨true, rfl, ?_⟩⟩
      exact iteF ⟨_, _, _, _, _, rfl, hgo (s8.trans s9)⟩
  · rintro σ' H3 ⟨o3, o4, o5, o6, o7, rfl, G3⟩
    exact q H3
end
end My
namespace My
open PySem PySem.Spec PyProof.Rows L2
section
variable {P : Program} {w : World} {K : PySem.W.Frag} {mg : Str → Option Value} {base : Heap} {a_BOUNDS a_LONG_BOUNDS : Addr} {tL tM : Tok}
theorem all_ends {f fj fo : Addr} {fd fdj fdo : FuncData} (B : Bt K mg a_BOUNDS a_LONG_BOUNDS tL tM) (Dd : Df K mg "_ends_of" s__ends_of ["part", "letters", "rows"] f fd) (Dj : Df K mg "_ends_of_join" s__ends_of_join ["parts", "letters", "rows"] fj fdj) (Do : Df K mg "_ends_of_or" s__ends_of_or ["parts", "letters", "rows"] fo fdo)
    (G1 : Cl P w K mg base 1 "_link" ["rows", "ends", "begins"] (spLink K)) (G2 : Cl P w K mg base 1 "_ends_of_leaf" ["part", "letters", "rows"] spLeaf) : ∀ n, FnOk P w K mg base CX0 (2 * n + 2) f fd ["part", "letters", "rows"] (spEnds n)
  | 0 => none_left fun vs H Q Ex h => by
    obtain ⟨H0, v, la, ra, e, cs, F, _, _, h, _⟩ := h
    exact absurd h (Nat.not_lt_zero _)
  | n + 1 => by
    have ih := Dd.cl (all_ends B Dd Dj Do G1 G2 n)
    exact ok_ends_step B Dd G1 G2 n (2 * n + 2) (by omega) ih (Dj.cl (ok_joinends B Dj G1 n (2 * n + 2) (by omega) ih)) (Do.cl (ok_orends B Do n (2 * n + 2) ih))
theorem all2_letters2_step {f : Addr} {fd : FuncData} (B : Bt K mg a_BOUNDS a_LONG_BOUNDS tL tM) (Dd : Df K mg "_law_letters" s__law_letters ["_law_expression"] f fd) : ∀ n, FnOk P w K mg base CX0 (n) f fd ["_law_expression"] (spLet2 n)
  | 0 => none_left fun vs H Q Ex h => by
    unfold spLet2 at h
    simp only [Nat.not_lt_zero, false_and, and_false, exists_false] at h
  | n + 1 => ok_letters2_step B Dd n (Dd.cl (all2_letters2_step B Dd n))
theorem all2_equal_step {f : Addr} {fd : FuncData} (B : Bt K mg a_BOUNDS a_LONG_BOUNDS tL tM) (Dd : Df K mg "_law_equal" s__law_equal ["_law_actual", "_law_due"] f fd) (G_law_is_integer : Cl P w K mg base 1 "_law_is_integer" ["_law_actual"] spIsInt) : ∀ n, FnOk P w K mg base CX0 (n + 1) f fd ["_law_actual", "_law_due"] (spEqual n)
  | 0 => none_left fun vs H Q Ex h => by
    unfold spEqual at h
    simp only [Nat.not_lt_zero, false_and, and_false, exists_false] at h
  | n + 1 => ok_equal_step B Dd G_law_is_integer n (Dd.cl (all2_equal_step B Dd G_law_is_integer n))
end
/-! ### what the top has left -/
set_option maxHeartbeats 4000000 in
theorem all_mk {l : PySem.W.OpenLaw} {w : World} {K : PySem.W.Frag} {h : Heap} {mg : Str → Option Value} {fa : Addr} (X : K.In h) (G : h.Ns mainGlobals mg) (hfa : mg "law" = some (.ref fa))
    {od1 an1 od2 an2 od3 an3 od4 an4 od5 an5 od6 an6 od7 an7 od8 an8 od9 an9 od10 an10 od11 an11 od12 an12 od13 an13 od14 an14 od15 an15 od16 an16 od17 an17 od18 an18 od19 an19 od20 an20 od21 an21 od22 an22 od23 an23 od24 an24 od25 an25 od26 an26 od27 an27 od28 an28 od29 an29 od30 an30 od31 an31 od32 an32 od33 an33 od34 an34 od35 an35 od36 an36 od37 an37 od38 an38 od39 an39 od40 an40 od41 an41 : Option Addr} {sl1 sl2 sl3 sl4 sl5 sl6 sl7 sl8 sl9 sl10 sl11 sl12 sl13 sl14 sl15 sl16 sl17 sl18 sl19 sl20 sl21 sl22 sl23 sl24 sl25 sl26 sl27 sl28 sl29 sl30 sl31 sl32 sl33 sl34 sl35 sl36 sl37 sl38 sl39 sl40 sl41 : Array (Option Value)} {oc1 kV1 dc1 pm1 cd1 ct1 oc2 kV2 dc2 pm2 cd2 ct2 oc3 kV3 dc3 pm3 cd3 ct3 oc4 kV4 dc4 pm4 cd4 ct4 oc5 kV5 dc5 pm5 cd5 ct5 oc6 kV6 dc6 pm6 cd6 ct6 oc7 kV7 dc7 pm7 cd7 ct7 oc8 kV8 dc8 pm8 cd8 ct8 oc9 kV9 dc9 pm9 cd9 ct9 oc10 kV10 dc10 pm10 cd10 ct10 oc11 kV11 dc11 pm11 cd11 ct11 oc12 kV12 dc12 pm12 cd12 ct12 oc13 kV13 dc13 pm13 cd13 ct13 oc14 kV14 dc14 pm14 cd14 ct14 oc15 kV15 dc15 pm15 cd15 ct15 oc16 kV16 dc16 pm16 cd16 ct16 oc17 kV17 dc17 pm17 cd17 ct17 oc18 kV18 dc18 pm18 cd18 ct18 oc19 kV19 dc19 pm19 cd19 ct19 oc20 kV20 dc20 pm20 cd20 ct20 oc21 kV21 dc21 pm21 cd21 ct21 oc22 kV22 dc22 pm22 cd22 ct22 oc23 kV23 dc23 pm23 cd23 ct23 oc24 kV24 dc24 pm24 cd24 ct24 oc25 kV25 dc25 pm25 cd25 ct25 oc26 kV26 dc26 pm26 cd26 ct26 oc27 kV27 dc27 pm27 cd27 ct27 oc28 kV28 dc28 pm28 cd28 ct28 oc29 kV29 dc29 pm29 cd29 ct29 oc30 kV30 dc30 pm30 cd30 ct30 oc31 kV31 dc31 pm31 cd31 ct31 oc32 kV32 dc32 pm32 cd32 ct32 oc33 kV33 dc33 pm33 cd33 ct33 oc34 kV34 dc34 pm34 cd34 ct34 oc35 kV35 dc35 pm35 cd35 ct35 oc36 kV36 dc36 pm36 cd36 ct36 oc37 kV37 dc37 pm37 cd37 ct37 oc38 kV38 dc38 pm38 cd38 ct38 oc39 kV39 dc39 pm39 cd39 ct39 oc40 kV40 dc40 pm40 cd40 ct40 oc41 kV41 dc41 pm41 cd41 ct41 : Value} {f1 f2 f3 f4 f5 f6 f7 f8 f9 f10 f11 f12 f13 f14 f15 f16 f17 f18 f19 f20 f21 f22 f23 f24 f25 f26 f27 f28 f29 f30 f31 f32 f33 f34 f35 f36 f37 f38 f39 f40 f41 : Addr}
    (a1 : PySem.W.nsIn K mainGlobals "_wall" = some (some (.ref f1))) (l1 : K.lookup f1 = some ⟨oc1, od1, .func (PySem.W.fnOf "_wall" "_wall" (defArgs s__wall) (defBody s__wall) (defScope s__wall) .none kV1 dc1 pm1 an1 cd1 ct1), sl1⟩) (c1 : PySem.W.codeIn K cd1 "_wall" = true) (k1 : PySem.W.keepIn K (.ref f1) = true)
    (a2 : PySem.W.nsIn K mainGlobals "steps_of" = some (some (.ref f2))) (l2 : K.lookup f2 = some ⟨oc2, od2, .func (PySem.W.fnOf "steps_of" "steps_of" (defArgs s_steps_of) (defBody s_steps_of) (defScope s_steps_of) .none kV2 dc2 pm2 an2 cd2 ct2), sl2⟩) (c2 : PySem.W.codeIn K cd2 "steps_of" = true) (k2 : PySem.W.keepIn K (.ref f2) = true)
    (a3 : PySem.W.nsIn K mainGlobals "_ends_of" = some (some (.ref f3))) (l3 : K.lookup f3 = some ⟨oc3, od3, .func (PySem.W.fnOf "_ends_of" "_ends_of" (defArgs s__ends_of) (defBody s__ends_of) (defScope s__ends_of) .none kV3 dc3 pm3 an3 cd3 ct3), sl3⟩) (c3 : PySem.W.codeIn K cd3 "_ends_of" = true) (k3 : PySem.W.keepIn K (.ref f3) = true)
    (a4 : PySem.W.nsIn K mainGlobals "_ends_of_leaf" = some (some (.ref f4))) (l4 : K.lookup f4 = some ⟨oc4, od4, .func (PySem.W.fnOf "_ends_of_leaf" "_ends_of_leaf" (defArgs s__ends_of_leaf) (defBody s__ends_of_leaf) (defScope s__ends_of_leaf) .none kV4 dc4 pm4 an4 cd4 ct4), sl4⟩) (c4 : PySem.W.codeIn K cd4 "_ends_of_leaf" = true) (k4 : PySem.W.keepIn K (.ref f4) = true)
    (a5 : PySem.W.nsIn K mainGlobals "_ends_of_join" = some (some (.ref f5))) (l5 : K.lookup f5 = some ⟨oc5, od5, .func (PySem.W.fnOf "_ends_of_join" "_ends_of_join" (defArgs s__ends_of_join) (defBody s__ends_of_join) (defScope s__ends_of_join) .none kV5 dc5 pm5 an5 cd5 ct5), sl5⟩) (c5 : PySem.W.codeIn K cd5 "_ends_of_join" = true) (k5 : PySem.W.keepIn K (.ref f5) = true)
    (a6 : PySem.W.nsIn K mainGlobals "_ends_of_or" = some (some (.ref f6))) (l6 : K.lookup f6 = some ⟨oc6, od6, .func (PySem.W.fnOf "_ends_of_or" "_ends_of_or" (defArgs s__ends_of_or) (defBody s__ends_of_or) (defScope s__ends_of_or) .none kV6 dc6 pm6 an6 cd6 ct6), sl6⟩) (c6 : PySem.W.codeIn K cd6 "_ends_of_or" = true) (k6 : PySem.W.keepIn K (.ref f6) = true)
    (a7 : PySem.W.nsIn K mainGlobals "_link" = some (some (.ref f7))) (l7 : K.lookup f7 = some ⟨oc7, od7, .func (PySem.W.fnOf "_link" "_link" (defArgs s__link) (defBody s__link) (defScope s__link) .none kV7 dc7 pm7 an7 cd7 ct7), sl7⟩) (c7 : PySem.W.codeIn K cd7 "_link" = true) (k7 : PySem.W.keepIn K (.ref f7) = true)
    (a8 : PySem.W.nsIn K mainGlobals "by_letter" = some (some (.ref f8))) (l8 : K.lookup f8 = some ⟨oc8, od8, .func (PySem.W.fnOf "by_letter" "by_letter" (defArgs s_by_letter) (defBody s_by_letter) (defScope s_by_letter) .none kV8 dc8 pm8 an8 cd8 ct8), sl8⟩) (c8 : PySem.W.codeIn K cd8 "by_letter" = true) (k8 : PySem.W.keepIn K (.ref f8) = true)
    (a9 : PySem.W.nsIn K mainGlobals "is_expression" = some (some (.ref f9))) (l9 : K.lookup f9 = some ⟨oc9, od9, .func (PySem.W.fnOf "is_expression" "is_expression" (defArgs s_is_expression) (defBody s_is_expression) (defScope s_is_expression) .none kV9 dc9 pm9 an9 cd9 ct9), sl9⟩) (c9 : PySem.W.codeIn K cd9 "is_expression" = true) (k9 : PySem.W.keepIn K (.ref f9) = true)
    (a10 : PySem.W.nsIn K mainGlobals "is_letter" = some (some (.ref f10))) (l10 : K.lookup f10 = some ⟨oc10, od10, .func (PySem.W.fnOf "is_letter" "is_letter" (defArgs s_is_letter) (defBody s_is_letter) (defScope s_is_letter) .none kV10 dc10 pm10 an10 cd10 ct10), sl10⟩) (c10 : PySem.W.codeIn K cd10 "is_letter" = true) (k10 : PySem.W.keepIn K (.ref f10) = true)
    {TD11 : Addr} {od211 : Option Addr} {nD11 : Nat} {slD11 : Array (Option Value)} {tD11_0 : Tok} (m11 : K.lookup TD11 = some ⟨.type "tuple", od211, .seq #[.str "expression" tD11_0] nD11, slD11⟩)
    (a11 : PySem.W.nsIn K mainGlobals "check_expression" = some (some (.ref f11))) (l11 : K.lookup f11 = some ⟨oc11, od11, .func (PySem.W.fnOf "check_expression" "check_expression" (defArgs s_check_expression) (defBody s_check_expression) (defScope s_check_expression) (.ref TD11) kV11 dc11 pm11 an11 cd11 ct11), sl11⟩) (c11 : PySem.W.codeIn K cd11 "check_expression" = true) (k11 : PySem.W.keepIn K (.ref f11) = true)
    (a12 : PySem.W.nsIn K mainGlobals "sizes_within" = some (some (.ref f12))) (l12 : K.lookup f12 = some ⟨oc12, od12, .func (PySem.W.fnOf "sizes_within" "sizes_within" (defArgs s_sizes_within) (defBody s_sizes_within) (defScope s_sizes_within) .none kV12 dc12 pm12 an12 cd12 ct12), sl12⟩) (c12 : PySem.W.codeIn K cd12 "sizes_within" = true) (k12 : PySem.W.keepIn K (.ref f12) = true)
    (a13 : PySem.W.nsIn K mainGlobals "_parts_of" = some (some (.ref f13))) (l13 : K.lookup f13 = some ⟨oc13, od13, .func (PySem.W.fnOf "_parts_of" "_parts_of" (defArgs s__parts_of) (defBody s__parts_of) (defScope s__parts_of) .none kV13 dc13 pm13 an13 cd13 ct13), sl13⟩) (c13 : PySem.W.codeIn K cd13 "_parts_of" = true) (k13 : PySem.W.keepIn K (.ref f13) = true)
    (a14 : PySem.W.nsIn K mainGlobals "_is_row" = some (some (.ref f14))) (l14 : K.lookup f14 = some ⟨oc14, od14, .func (PySem.W.fnOf "_is_row" "_is_row" (defArgs s__is_row) (defBody s__is_row) (defScope s__is_row) .none kV14 dc14 pm14 an14 cd14 ct14), sl14⟩) (c14 : PySem.W.codeIn K cd14 "_is_row" = true) (k14 : PySem.W.keepIn K (.ref f14) = true)
    (a15 : PySem.W.nsIn K mainGlobals "_begins_with" = some (some (.ref f15))) (l15 : K.lookup f15 = some ⟨oc15, od15, .func (PySem.W.fnOf "_begins_with" "_begins_with" (defArgs s__begins_with) (defBody s__begins_with) (defScope s__begins_with) .none kV15 dc15 pm15 an15 cd15 ct15), sl15⟩) (c15 : PySem.W.codeIn K cd15 "_begins_with" = true) (k15 : PySem.W.keepIn K (.ref f15) = true)
    (a16 : PySem.W.nsIn K mainGlobals "has_conflict" = some (some (.ref f16))) (l16 : K.lookup f16 = some ⟨oc16, od16, .func (PySem.W.fnOf "has_conflict" "has_conflict" (defArgs s_has_conflict) (defBody s_has_conflict) (defScope s_has_conflict) .none kV16 dc16 pm16 an16 cd16 ct16), sl16⟩) (c16 : PySem.W.codeIn K cd16 "has_conflict" = true) (k16 : PySem.W.keepIn K (.ref f16) = true)
    (a17 : PySem.W.nsIn K mainGlobals "_nodes" = some (some (.ref f17))) (l17 : K.lookup f17 = some ⟨oc17, od17, .func (PySem.W.fnOf "_nodes" "_nodes" (defArgs s__nodes) (defBody s__nodes) (defScope s__nodes) .none kV17 dc17 pm17 an17 cd17 ct17), sl17⟩) (c17 : PySem.W.codeIn K cd17 "_nodes" = true) (k17 : PySem.W.keepIn K (.ref f17) = true)
    (a18 : PySem.W.nsIn K mainGlobals "_near" = some (some (.ref f18))) (l18 : K.lookup f18 = some ⟨oc18, od18, .func (PySem.W.fnOf "_near" "_near" (defArgs s__near) (defBody s__near) (defScope s__near) .none kV18 dc18 pm18 an18 cd18 ct18), sl18⟩) (c18 : PySem.W.codeIn K cd18 "_near" = true) (k18 : PySem.W.keepIn K (.ref f18) = true)
    (a19 : PySem.W.nsIn K mainGlobals "_pairs_behind" = some (some (.ref f19))) (l19 : K.lookup f19 = some ⟨oc19, od19, .func (PySem.W.fnOf "_pairs_behind" "_pairs_behind" (defArgs s__pairs_behind) (defBody s__pairs_behind) (defScope s__pairs_behind) .none kV19 dc19 pm19 an19 cd19 ct19), sl19⟩) (c19 : PySem.W.codeIn K cd19 "_pairs_behind" = true) (k19 : PySem.W.keepIn K (.ref f19) = true)
    (a20 : PySem.W.nsIn K mainGlobals "sure_steps_of" = some (some (.ref f20))) (l20 : K.lookup f20 = some ⟨oc20, od20, .func (PySem.W.fnOf "sure_steps_of" "sure_steps_of" (defArgs s_sure_steps_of) (defBody s_sure_steps_of) (defScope s_sure_steps_of) .none kV20 dc20 pm20 an20 cd20 ct20), sl20⟩) (c20 : PySem.W.codeIn K cd20 "sure_steps_of" = true) (k20 : PySem.W.keepIn K (.ref f20) = true)
    (a21 : PySem.W.nsIn K mainGlobals "is_command" = some (some (.ref f21))) (l21 : K.lookup f21 = some ⟨oc21, od21, .func (PySem.W.fnOf "is_command" "is_command" (defArgs s_is_command) (defBody s_is_command) (defScope s_is_command) .none kV21 dc21 pm21 an21 cd21 ct21), sl21⟩) (c21 : PySem.W.codeIn K cd21 "is_command" = true) (k21 : PySem.W.keepIn K (.ref f21) = true)
    (a22 : PySem.W.nsIn K mainGlobals "places_behind_command" = some (some (.ref f22))) (l22 : K.lookup f22 = some ⟨oc22, od22, .func (PySem.W.fnOf "places_behind_command" "places_behind_command" (defArgs s_places_behind_command) (defBody s_places_behind_command) (defScope s_places_behind_command) .none kV22 dc22 pm22 an22 cd22 ct22), sl22⟩) (c22 : PySem.W.codeIn K cd22 "places_behind_command" = true) (k22 : PySem.W.keepIn K (.ref f22) = true)
    (a23 : PySem.W.nsIn K mainGlobals "near_places" = some (some (.ref f23))) (l23 : K.lookup f23 = some ⟨oc23, od23, .func (PySem.W.fnOf "near_places" "near_places" (defArgs s_near_places) (defBody s_near_places) (defScope s_near_places) .none kV23 dc23 pm23 an23 cd23 ct23), sl23⟩) (c23 : PySem.W.codeIn K cd23 "near_places" = true) (k23 : PySem.W.keepIn K (.ref f23) = true)
    (a24 : PySem.W.nsIn K mainGlobals "_place_of" = some (some (.ref f24))) (l24 : K.lookup f24 = some ⟨oc24, od24, .func (PySem.W.fnOf "_place_of" "_place_of" (defArgs s__place_of) (defBody s__place_of) (defScope s__place_of) .none kV24 dc24 pm24 an24 cd24 ct24), sl24⟩) (c24 : PySem.W.codeIn K cd24 "_place_of" = true) (k24 : PySem.W.keepIn K (.ref f24) = true)
    (a25 : PySem.W.nsIn K mainGlobals "can_end" = some (some (.ref f25))) (l25 : K.lookup f25 = some ⟨oc25, od25, .func (PySem.W.fnOf "can_end" "can_end" (defArgs s_can_end) (defBody s_can_end) (defScope s_can_end) .none kV25 dc25 pm25 an25 cd25 ct25), sl25⟩) (c25 : PySem.W.codeIn K cd25 "can_end" = true) (k25 : PySem.W.keepIn K (.ref f25) = true)
    (a26 : PySem.W.nsIn K mainGlobals "_law_stream" = some (some (.ref f26))) (l26 : K.lookup f26 = some ⟨oc26, od26, .func (PySem.W.fnOf "_law_stream" "_law_stream" (defArgs s__law_stream) (defBody s__law_stream) (defScope s__law_stream) .none kV26 dc26 pm26 an26 cd26 ct26), sl26⟩) (c26 : PySem.W.codeIn K cd26 "_law_stream" = true) (k26 : PySem.W.keepIn K (.ref f26) = true)
    (a27 : PySem.W.nsIn K mainGlobals "_law_next" = some (some (.ref f27))) (l27 : K.lookup f27 = some ⟨oc27, od27, .func (PySem.W.fnOf "_law_next" "_law_next" (defArgs s__law_next) (defBody s__law_next) (defScope s__law_next) .none kV27 dc27 pm27 an27 cd27 ct27), sl27⟩) (c27 : PySem.W.codeIn K cd27 "_law_next" = true) (k27 : PySem.W.keepIn K (.ref f27) = true)
    (a28 : PySem.W.nsIn K mainGlobals "_law_is_integer" = some (some (.ref f28))) (l28 : K.lookup f28 = some ⟨oc28, od28, .func (PySem.W.fnOf "_law_is_integer" "_law_is_integer" (defArgs s__law_is_integer) (defBody s__law_is_integer) (defScope s__law_is_integer) .none kV28 dc28 pm28 an28 cd28 ct28), sl28⟩) (c28 : PySem.W.codeIn K cd28 "_law_is_integer" = true) (k28 : PySem.W.keepIn K (.ref f28) = true)
    (a29 : PySem.W.nsIn K mainGlobals "_law_equal" = some (some (.ref f29))) (l29 : K.lookup f29 = some ⟨oc29, od29, .func (PySem.W.fnOf "_law_equal" "_law_equal" (defArgs s__law_equal) (defBody s__law_equal) (defScope s__law_equal) .none kV29 dc29 pm29 an29 cd29 ct29), sl29⟩) (c29 : PySem.W.codeIn K cd29 "_law_equal" = true) (k29 : PySem.W.keepIn K (.ref f29) = true)
    (a30 : PySem.W.nsIn K mainGlobals "_law_made" = some (some (.ref f30))) (l30 : K.lookup f30 = some ⟨oc30, od30, .func (PySem.W.fnOf "_law_made" "_law_made" (defArgs s__law_made) (defBody s__law_made) (defScope s__law_made) .none kV30 dc30 pm30 an30 cd30 ct30), sl30⟩) (c30 : PySem.W.codeIn K cd30 "_law_made" = true) (k30 : PySem.W.keepIn K (.ref f30) = true)
    (a31 : PySem.W.nsIn K mainGlobals "_law_letters" = some (some (.ref f31))) (l31 : K.lookup f31 = some ⟨oc31, od31, .func (PySem.W.fnOf "_law_letters" "_law_letters" (defArgs s__law_letters) (defBody s__law_letters) (defScope s__law_letters) .none kV31 dc31 pm31 an31 cd31 ct31), sl31⟩) (c31 : PySem.W.codeIn K cd31 "_law_letters" = true) (k31 : PySem.W.keepIn K (.ref f31) = true)
    (a32 : PySem.W.nsIn K mainGlobals "_law_joined" = some (some (.ref f32))) (l32 : K.lookup f32 = some ⟨oc32, od32, .func (PySem.W.fnOf "_law_joined" "_law_joined" (defArgs s__law_joined) (defBody s__law_joined) (defScope s__law_joined) .none kV32 dc32 pm32 an32 cd32 ct32), sl32⟩) (c32 : PySem.W.codeIn K cd32 "_law_joined" = true) (k32 : PySem.W.keepIn K (.ref f32) = true)
    (a33 : PySem.W.nsIn K mainGlobals "_law_tables" = some (some (.ref f33))) (l33 : K.lookup f33 = some ⟨oc33, od33, .func (PySem.W.fnOf "_law_tables" "_law_tables" (defArgs s__law_tables) (defBody s__law_tables) (defScope s__law_tables) .none kV33 dc33 pm33 an33 cd33 ct33), sl33⟩) (c33 : PySem.W.codeIn K cd33 "_law_tables" = true) (k33 : PySem.W.keepIn K (.ref f33) = true)
    (a34 : PySem.W.nsIn K mainGlobals "_law_near" = some (some (.ref f34))) (l34 : K.lookup f34 = some ⟨oc34, od34, .func (PySem.W.fnOf "_law_near" "_law_near" (defArgs s__law_near) (defBody s__law_near) (defScope s__law_near) .none kV34 dc34 pm34 an34 cd34 ct34), sl34⟩) (c34 : PySem.W.codeIn K cd34 "_law_near" = true) (k34 : PySem.W.keepIn K (.ref f34) = true)
    (a35 : PySem.W.nsIn K mainGlobals "_law_is_sure" = some (some (.ref f35))) (l35 : K.lookup f35 = some ⟨oc35, od35, .func (PySem.W.fnOf "_law_is_sure" "_law_is_sure" (defArgs s__law_is_sure) (defBody s__law_is_sure) (defScope s__law_is_sure) .none kV35 dc35 pm35 an35 cd35 ct35), sl35⟩) (c35 : PySem.W.codeIn K cd35 "_law_is_sure" = true) (k35 : PySem.W.keepIn K (.ref f35) = true)
    (a36 : PySem.W.nsIn K mainGlobals "_law_sure" = some (some (.ref f36))) (l36 : K.lookup f36 = some ⟨oc36, od36, .func (PySem.W.fnOf "_law_sure" "_law_sure" (defArgs s__law_sure) (defBody s__law_sure) (defScope s__law_sure) .none kV36 dc36 pm36 an36 cd36 ct36), sl36⟩) (c36 : PySem.W.codeIn K cd36 "_law_sure" = true) (k36 : PySem.W.keepIn K (.ref f36) = true)
    (a37 : PySem.W.nsIn K mainGlobals "_law_may_end" = some (some (.ref f37))) (l37 : K.lookup f37 = some ⟨oc37, od37, .func (PySem.W.fnOf "_law_may_end" "_law_may_end" (defArgs s__law_may_end) (defBody s__law_may_end) (defScope s__law_may_end) .none kV37 dc37 pm37 an37 cd37 ct37), sl37⟩) (c37 : PySem.W.codeIn K cd37 "_law_may_end" = true) (k37 : PySem.W.keepIn K (.ref f37) = true)
    (a38 : PySem.W.nsIn K mainGlobals "_law_markings" = some (some (.ref f38))) (l38 : K.lookup f38 = some ⟨oc38, od38, .func (PySem.W.fnOf "_law_markings" "_law_markings" (defArgs s__law_markings) (defBody s__law_markings) (defScope s__law_markings) .none kV38 dc38 pm38 an38 cd38 ct38), sl38⟩) (c38 : PySem.W.codeIn K cd38 "_law_markings" = true) (k38 : PySem.W.keepIn K (.ref f38) = true)
    (a39 : PySem.W.nsIn K mainGlobals "_law_word" = some (some (.ref f39))) (l39 : K.lookup f39 = some ⟨oc39, od39, .func (PySem.W.fnOf "_law_word" "_law_word" (defArgs s__law_word) (defBody s__law_word) (defScope s__law_word) .none kV39 dc39 pm39 an39 cd39 ct39), sl39⟩) (c39 : PySem.W.codeIn K cd39 "_law_word" = true) (k39 : PySem.W.keepIn K (.ref f39) = true)
    (a40 : PySem.W.nsIn K mainGlobals "_law_read" = some (some (.ref f40))) (l40 : K.lookup f40 = some ⟨oc40, od40, .func (PySem.W.fnOf "_law_read" "_law_read" (defArgs s__law_read) (defBody s__law_read) (defScope s__law_read) .none kV40 dc40 pm40 an40 cd40 ct40), sl40⟩) (c40 : PySem.W.codeIn K cd40 "_law_read" = true) (k40 : PySem.W.keepIn K (.ref f40) = true)
    (a41 : PySem.W.nsIn K mainGlobals "law" = some (some (.ref f41))) (l41 : K.lookup f41 = some ⟨oc41, od41, .func (PySem.W.fnOf "law" "law" (defArgs s_law) (defBody s_law) (defScope s_law) .none kV41 dc41 pm41 an41 cd41 ct41), sl41⟩) (c41 : PySem.W.codeIn K cd41 "law" = true) (k41 : PySem.W.keepIn K (.ref f41) = true)
    (z_ValueError : PySem.W.nsIn K mainGlobals "ValueError" = some none) (z_abs : PySem.W.nsIn K mainGlobals "abs" = some none) (z_all : PySem.W.nsIn K mainGlobals "all" = some none) (z_any : PySem.W.nsIn K mainGlobals "any" = some none) (z_bool : PySem.W.nsIn K mainGlobals "bool" = some none) (z_enumerate : PySem.W.nsIn K mainGlobals "enumerate" = some none) (z_int : PySem.W.nsIn K mainGlobals "int" = some none) (z_isinstance : PySem.W.nsIn K mainGlobals "isinstance" = some none) (z_len : PySem.W.nsIn K mainGlobals "len" = some none) (z_list : PySem.W.nsIn K mainGlobals "list" = some none) (z_max : PySem.W.nsIn K mainGlobals "max" = some none) (z_range : PySem.W.nsIn K mainGlobals "range" = some none) (z_sorted : PySem.W.nsIn K mainGlobals "sorted" = some none) (z_str : PySem.W.nsIn K mainGlobals "str" = some none) (z_super : PySem.W.nsIn K mainGlobals "super" = some none) (z_tuple : PySem.W.nsIn K mainGlobals "tuple" = some none)
    {tBOUNDS0 tBOUNDS1 tBOUNDS2 : Tok} {aBOUNDS : Addr} {dBOUNDS : Option Addr} {nBOUNDS : Nat} {sBOUNDS : Array (Option Value)}
    {tL : Tok}
    {tBEGIN : Tok}
    {tMOST_COMMANDS : Tok}
    (gBOUNDS : PySem.W.nsIn K mainGlobals "BOUNDS" = some (some (.ref aBOUNDS)))
    (lBOUNDS : K.lookup aBOUNDS = some ⟨.type "tuple", dBOUNDS, .seq #[.int 8 tBOUNDS0, .int 6 tBOUNDS1, .int 24 tBOUNDS2] nBOUNDS, sBOUNDS⟩)
    (gLETTERS : PySem.W.nsIn K mainGlobals "LETTERS" = some (some (.str "abcd" tL)))
    (gBEGIN : PySem.W.nsIn K mainGlobals "BEGIN" = some (some (.int (-1) tBEGIN)))
    (gMOST_COMMANDS : PySem.W.nsIn K mainGlobals "MOST_COMMANDS" = some (some (.int 20 tMOST_COMMANDS)))
    {CS fI : Addr} {odI anI : Option Addr} {slI : Array (Option Value)} {ocI kVI dcI pmI cdI ctI : Value}
    (aS : PySem.W.nsIn K mainGlobals "Steps" = some (some (.ref CS))) (aI : PySem.W.findIn K (.ref CS) "__init__" = some (some (.ref fI))) (iI : PySem.W.isFn K (.ref fI) = true)
    (lI : K.lookup fI = some ⟨ocI, odI, .func (PySem.W.fnOf "__init__" "Steps.__init__" (defArgs s_Steps___init__) (defBody s_Steps___init__) (defScope s_Steps___init__) .none kVI dcI pmI anI cdI ctI), slI⟩) (cI : PySem.W.codeIn K cdI "Steps.__init__" = true) (kI : PySem.W.keepIn K (.ref fI) = true)
    (pgS : PySem.W.plainGet K CS Str.empty = true) (hdS : PySem.W.hasDictIn K CS = true) (poS : PySem.W.plainOver K CS = true) (saS : PySem.W.findIn K (.ref CS) "__setattr__" = some (some (.builtin "object.__setattr__"))) (mkS : PySem.W.makesIn K CS = true) (kcS : PySem.W.keepIn K (.ref CS) = true)
    (n1 : PySem.W.findIn K (.ref CS) "letters" = some none) (n2 : PySem.W.findIn K (.ref CS) "empty" = some none) (n3 : PySem.W.findIn K (.ref CS) "first" = some none) (n4 : PySem.W.findIn K (.ref CS) "last" = some none) (n5 : PySem.W.findIn K (.ref CS) "following" = some none)
    {CR : Addr}
    {fR_init : Addr} {odR_init anR_init : Option Addr} {slR_init : Array (Option Value)} {ocR_init kVR_init dcR_init pmR_init cdR_init ctR_init : Value}
    {fR_act : Addr} {odR_act anR_act : Option Addr} {slR_act : Array (Option Value)} {ocR_act kVR_act dcR_act pmR_act cdR_act ctR_act : Value}
    {fR_places : Addr} {odR_places anR_places : Option Addr} {slR_places : Array (Option Value)} {ocR_places kVR_places dcR_places pmR_places cdR_places ctR_places : Value}
    {fR_may_end : Addr} {odR_may_end anR_may_end : Option Addr} {slR_may_end : Array (Option Value)} {ocR_may_end kVR_may_end dcR_may_end pmR_may_end cdR_may_end ctR_may_end : Value}
    (aR : PySem.W.nsIn K mainGlobals "Reader" = some (some (.ref CR)))
    (atR_init : PySem.W.findIn K (.ref CR) "__init__" = some (some (.ref fR_init))) (fnR_init : PySem.W.isFn K (.ref fR_init) = true) (lR_init : K.lookup fR_init = some ⟨ocR_init, odR_init, .func (PySem.W.fnOf "__init__" "Reader.__init__" (defArgs s_Reader___init__) (defBody s_Reader___init__) (defScope s_Reader___init__) .none kVR_init dcR_init pmR_init anR_init cdR_init ctR_init), slR_init⟩) (cR_init : PySem.W.codeIn K cdR_init "Reader.__init__" = true) (kR_init : PySem.W.keepIn K (.ref fR_init) = true)
    (atR_act : PySem.W.findIn K (.ref CR) "act" = some (some (.ref fR_act))) (fnR_act : PySem.W.isFn K (.ref fR_act) = true) (lR_act : K.lookup fR_act = some ⟨ocR_act, odR_act, .func (PySem.W.fnOf "act" "Reader.act" (defArgs s_Reader_act) (defBody s_Reader_act) (defScope s_Reader_act) .none kVR_act dcR_act pmR_act anR_act cdR_act ctR_act), slR_act⟩) (cR_act : PySem.W.codeIn K cdR_act "Reader.act" = true) (kR_act : PySem.W.keepIn K (.ref fR_act) = true)
    (atR_places : PySem.W.findIn K (.ref CR) "places" = some (some (.ref fR_places))) (fnR_places : PySem.W.isFn K (.ref fR_places) = true) (lR_places : K.lookup fR_places = some ⟨ocR_places, odR_places, .func (PySem.W.fnOf "places" "Reader.places" (defArgs s_Reader_places) (defBody s_Reader_places) (defScope s_Reader_places) .none kVR_places dcR_places pmR_places anR_places cdR_places ctR_places), slR_places⟩) (cR_places : PySem.W.codeIn K cdR_places "Reader.places" = true) (kR_places : PySem.W.keepIn K (.ref fR_places) = true)
    (atR_may_end : PySem.W.findIn K (.ref CR) "may_end" = some (some (.ref fR_may_end))) (fnR_may_end : PySem.W.isFn K (.ref fR_may_end) = true) (lR_may_end : K.lookup fR_may_end = some ⟨ocR_may_end, odR_may_end, .func (PySem.W.fnOf "may_end" "Reader.may_end" (defArgs s_Reader_may_end) (defBody s_Reader_may_end) (defScope s_Reader_may_end) .none kVR_may_end dcR_may_end pmR_may_end anR_may_end cdR_may_end ctR_may_end), slR_may_end⟩) (cR_may_end : PySem.W.codeIn K cdR_may_end "Reader.may_end" = true) (kR_may_end : PySem.W.keepIn K (.ref fR_may_end) = true)
    (pgR : PySem.W.plainGet K CR Str.empty = true) (hdR : PySem.W.hasDictIn K CR = true) (poR : PySem.W.plainOver K CR = true) (saR : PySem.W.findIn K (.ref CR) "__setattr__" = some (some (.builtin "object.__setattr__"))) (mkR : PySem.W.makesIn K CR = true) (kcR : PySem.W.keepIn K (.ref CR) = true)
    (naR0 : PySem.W.findIn K (.ref CR) "_expression" = some none) (naR1 : PySem.W.findIn K (.ref CR) "_steps" = some none) (naR2 : PySem.W.findIn K (.ref CR) "_journal" = some none) (naR3 : PySem.W.findIn K (.ref CR) "_reads" = some none)
    {CNotPossible fINotPossible cdaNotPossible ccNotPossible : Addr} {nmNotPossible qNotPossible : Str} {NNotPossible : Addr} {bsNotPossible bmNotPossible : List Value} {snNotPossible : List Str} {subNotPossible : List Value} {abNotPossible : Bool} {colNotPossible : Option Bool} {ddNotPossible : Option Addr} {k0NotPossible k1NotPossible k2NotPossible k3NotPossible k5NotPossible : Option Value}
    {ocNotPossible docNotPossible pmNotPossible ctNotPossible : Value} {odNotPossible anNotPossible : Option Addr} {oslNotPossible : Array (Option Value)} {p1NotPossible p2NotPossible a1NotPossible a2NotPossible a3NotPossible a4NotPossible a5NotPossible a6NotPossible a7NotPossible a8NotPossible a9NotPossible b1NotPossible b2NotPossible b3NotPossible b4NotPossible : Pos}
    {o1NotPossible o4NotPossible : Value} {o2NotPossible o5NotPossible : Option Addr} {vsNotPossible : Array Value} {o3NotPossible o6NotPossible : Array (Option Value)} {fileNotPossible : Str} {tfNotPossible : Tok}
    (gCNotPossible : PySem.W.nsIn K mainGlobals "NotPossible" = some (some (.ref CNotPossible)))
    (xLNotPossible : K.lookup CNotPossible = some (excClassObj nmNotPossible qNotPossible CNotPossible NNotPossible bsNotPossible bmNotPossible true snNotPossible subNotPossible abNotPossible colNotPossible ddNotPossible k0NotPossible k1NotPossible k2NotPossible k3NotPossible k5NotPossible "ValueError.__new__")) (bmNotPossible' : PySem.HandSPX.refsVE bmNotPossible = true)
    (saNotPossible : PySem.W.findIn K (.ref CNotPossible) "__setattr__" = some (some (.builtin "object.__setattr__"))) (gaNotPossible : PySem.W.findIn K (.ref CNotPossible) "__getattribute__" = some (some (.builtin "BaseException.__getattribute__"))) (ggNotPossible : PySem.W.findIn K (.ref CNotPossible) "__getattr__" = some none) (nbNotPossible : PySem.W.findIn K (.ref CNotPossible) "why" = some none)
    (iCNotPossible : PySem.W.findIn K (.ref CNotPossible) "__init__" = some (some (.ref fINotPossible))) (tINotPossible : PySem.W.typeIn K (.ref fINotPossible) = some (.type "function")) (kCNotPossible : PySem.W.keepIn K (.ref CNotPossible) = true) (eCNotPossible : PySem.W.subIn K (.ref CNotPossible) (.type "BaseException") = some true) (tCNotPossible : PySem.W.typeIn K (.ref CNotPossible) = some (.type "type")) (hCNotPossible : PySem.W.hasDictIn K CNotPossible = true)
    (upNotPossible : PySem.W.ks_superIn K CNotPossible CNotPossible "__init__" = some (some (.builtin "ValueError.__init__"))) (mCNotPossible : PySem.W.mroIn K CNotPossible (.ref CNotPossible) = some true) (sVNotPossible : PySem.W.subIn K (.ref CNotPossible) (.type "ValueError") = some true) (sSNotPossible : PySem.W.subIn K (.ref CNotPossible) (.ref CNotPossible) = some true)
    (opNotPossible : PySem.W.nsIn K cStatics "thirdparty.any" = some none) (gSNotPossible : PySem.W.nsIn K mainGlobals "super" = some none)
    (lINotPossible : K.lookup fINotPossible = some ⟨ocNotPossible, odNotPossible, .func (PySem.W.ksFn "__init__" "NotPossible.__init__" (ExNotPossible.prm p1NotPossible p2NotPossible) (ExNotPossible.bod a1NotPossible a2NotPossible a3NotPossible a4NotPossible a5NotPossible a6NotPossible a7NotPossible a8NotPossible a9NotPossible b1NotPossible b2NotPossible b3NotPossible b4NotPossible) ExNotPossible.scp .none .none docNotPossible pmNotPossible anNotPossible (.ref cdaNotPossible) ctNotPossible ccNotPossible), oslNotPossible⟩) (cINotPossible : PySem.W.codeIn K (.ref cdaNotPossible) "NotPossible.__init__" = true)
    (lDNotPossible : K.lookup cdaNotPossible = some ⟨o1NotPossible, o2NotPossible, .fields vsNotPossible, o3NotPossible⟩) (vDNotPossible : vsNotPossible[2]? = some (.str fileNotPossible tfNotPossible)) (fDNotPossible : fileNotPossible = "/claim/cut.py") (lccNotPossible : K.lookup ccNotPossible = some ⟨o4NotPossible, o5NotPossible, .cell (some (.ref CNotPossible)), o6NotPossible⟩) (eLNotPossible : (a3NotPossible.endLine == a8NotPossible.line) = true)
    (pFNotPossible : l.prog.main.file = "/claim/cut.py") (pSNotPossible : (l.prog.main.scope.names.lookup ("super" : Str)).isSome = false)
    :
    ∃ fd : FuncData, (∀ (s : Shared) (v : Value), BindsTo s fd ⟨[v], []⟩ [("_law_script", v)]) ∧ ∀ base : Heap, K.In base → base.Ns mainGlobals mg → FnOk l.prog w K mg base CX0 91 fa fd ["_law_script"] (spLaw K) := by
  have F1 := fun_mk (st := s__wall) l1 c1 k1
  have b1 := F1.binds (ps := ["k"]) fun _ _ _ _ _ _ us hl => match us, hl with | [_], _ => rfl
  have D__wall : Df K mg "_wall" s__wall ["k"] f1 _ := ⟨F1, b1, PySem.W.mg_of X G a1⟩
  have F2 := fun_mk (st := s_steps_of) l2 c2 k2
  have b2 := F2.binds (ps := ["expression"]) fun _ _ _ _ _ _ us hl => match us, hl with | [_], _ => rfl
  have D_steps_of : Df K mg "steps_of" s_steps_of ["expression"] f2 _ := ⟨F2, b2, PySem.W.mg_of X G a2⟩
  have F3 := fun_mk (st := s__ends_of) l3 c3 k3
  have b3 := F3.binds (ps := ["part", "letters", "rows"]) fun _ _ _ _ _ _ us hl => match us, hl with | [_, _, _], _ => rfl
  have D__ends_of : Df K mg "_ends_of" s__ends_of ["part", "letters", "rows"] f3 _ := ⟨F3, b3, PySem.W.mg_of X G a3⟩
  have F4 := fun_mk (st := s__ends_of_leaf) l4 c4 k4
  have b4 := F4.binds (ps := ["part", "letters", "rows"]) fun _ _ _ _ _ _ us hl => match us, hl with | [_, _, _], _ => rfl
  have D__ends_of_leaf : Df K mg "_ends_of_leaf" s__ends_of_leaf ["part", "letters", "rows"] f4 _ := ⟨F4, b4, PySem.W.mg_of X G a4⟩
  have F5 := fun_mk (st := s__ends_of_join) l5 c5 k5
  have b5 := F5.binds (ps := ["parts", "letters", "rows"]) fun _ _ _ _ _ _ us hl => match us, hl with | [_, _, _], _ => rfl
  have D__ends_of_join : Df K mg "_ends_of_join" s__ends_of_join ["parts", "letters", "rows"] f5 _ := ⟨F5, b5, PySem.W.mg_of X G a5⟩
  have F6 := fun_mk (st := s__ends_of_or) l6 c6 k6
  have b6 := F6.binds (ps := ["parts", "letters", "rows"]) fun _ _ _ _ _ _ us hl => match us, hl with | [_, _, _], _ => rfl
  have D__ends_of_or : Df K mg "_ends_of_or" s__ends_of_or ["parts", "letters", "rows"] f6 _ := ⟨F6, b6, PySem.W.mg_of X G a6⟩
  have F7 := fun_mk (st := s__link) l7 c7 k7
  have b7 := F7.binds (ps := ["rows", "ends", "begins"]) fun _ _ _ _ _ _ us hl => match us, hl with | [_, _, _], _ => rfl
  have D__link : Df K mg "_link" s__link ["rows", "ends", "begins"] f7 _ := ⟨F7, b7, PySem.W.mg_of X G a7⟩
  have F8 := fun_mk (st := s_by_letter) l8 c8 k8
  have b8 := F8.binds (ps := ["steps", "near"]) fun _ _ _ _ _ _ us hl => match us, hl with | [_, _], _ => rfl
  have D_by_letter : Df K mg "by_letter" s_by_letter ["steps", "near"] f8 _ := ⟨F8, b8, PySem.W.mg_of X G a8⟩
  have F9 := fun_mk (st := s_is_expression) l9 c9 k9
  have b9 := F9.binds (ps := ["value"]) fun _ _ _ _ _ _ us hl => match us, hl with | [_], _ => rfl
  have D_is_expression : Df K mg "is_expression" s_is_expression ["value"] f9 _ := ⟨F9, b9, PySem.W.mg_of X G a9⟩
  have F10 := fun_mk (st := s_is_letter) l10 c10 k10
  have b10 := F10.binds (ps := ["value"]) fun _ _ _ _ _ _ us hl => match us, hl with | [_], _ => rfl
  have D_is_letter : Df K mg "is_letter" s_is_letter ["value"] f10 _ := ⟨F10, b10, PySem.W.mg_of X G a10⟩
  have F11 : FunD K "check_expression" "check_expression" (defArgs s_check_expression) (defBody s_check_expression) (defScope s_check_expression) [V.str "expression"] [] f11 _ := ⟨⟨oc11, od11, .ref TD11, kV11, dc11, pm11, an11, cd11, ct11, sl11, rfl, l11, c11, .inr ⟨(by intro c; cases c), TD11, _, _, _, rfl, m11, rfl, .cons ⟨_, rfl⟩ (.nil)⟩, .inl rfl⟩, k11⟩
  have D_check_expression : DfD K mg "check_expression" s_check_expression ["value", "name"] [V.str "expression"] f11 _ := DfD.mk1 F11 (PySem.W.mg_of X G a11) 1 (by intro c; cases c) rfl (fun T kV doc pm an cdv ct us its h1 h2 => match us, its, h1, h2 with | [_], [_], _, _ => ⟨_, rfl, rfl⟩) (fun T kV doc pm an cdv ct us its h1 h2 => match us, its, h1, h2 with | [_, _], [_], _, _ => ⟨_, rfl, rfl⟩)
  have F12 := fun_mk (st := s_sizes_within) l12 c12 k12
  have b12 := F12.binds (ps := ["value", "bounds"]) fun _ _ _ _ _ _ us hl => match us, hl with | [_, _], _ => rfl
  have D_sizes_within : Df K mg "sizes_within" s_sizes_within ["value", "bounds"] f12 _ := ⟨F12, b12, PySem.W.mg_of X G a12⟩
  have F13 := fun_mk (st := s__parts_of) l13 c13 k13
  have b13 := F13.binds (ps := ["value"]) fun _ _ _ _ _ _ us hl => match us, hl with | [_], _ => rfl
  have D__parts_of : Df K mg "_parts_of" s__parts_of ["value"] f13 _ := ⟨F13, b13, PySem.W.mg_of X G a13⟩
  have F14 := fun_mk (st := s__is_row) l14 c14 k14
  have b14 := F14.binds (ps := ["word", "value"]) fun _ _ _ _ _ _ us hl => match us, hl with | [_, _], _ => rfl
  have D__is_row : Df K mg "_is_row" s__is_row ["word", "value"] f14 _ := ⟨F14, b14, PySem.W.mg_of X G a14⟩
  have F15 := fun_mk (st := s__begins_with) l15 c15 k15
  have b15 := F15.binds (ps := ["value", "word"]) fun _ _ _ _ _ _ us hl => match us, hl with | [_, _], _ => rfl
  have D__begins_with : Df K mg "_begins_with" s__begins_with ["value", "word"] f15 _ := ⟨F15, b15, PySem.W.mg_of X G a15⟩
  have F16 := fun_mk (st := s_has_conflict) l16 c16 k16
  have b16 := F16.binds (ps := ["steps"]) fun _ _ _ _ _ _ us hl => match us, hl with | [_], _ => rfl
  have D_has_conflict : Df K mg "has_conflict" s_has_conflict ["steps"] f16 _ := ⟨F16, b16, PySem.W.mg_of X G a16⟩
  have F17 := fun_mk (st := s__nodes) l17 c17 k17
  have b17 := F17.binds (ps := ["steps"]) fun _ _ _ _ _ _ us hl => match us, hl with | [_], _ => rfl
  have D__nodes : Df K mg "_nodes" s__nodes ["steps"] f17 _ := ⟨F17, b17, PySem.W.mg_of X G a17⟩
  have F18 := fun_mk (st := s__near) l18 c18 k18
  have b18 := F18.binds (ps := ["steps", "node"]) fun _ _ _ _ _ _ us hl => match us, hl with | [_, _], _ => rfl
  have D__near : Df K mg "_near" s__near ["steps", "node"] f18 _ := ⟨F18, b18, PySem.W.mg_of X G a18⟩
  have F19 := fun_mk (st := s__pairs_behind) l19 c19 k19
  have b19 := F19.binds (ps := ["steps", "node"]) fun _ _ _ _ _ _ us hl => match us, hl with | [_, _], _ => rfl
  have D__pairs_behind : Df K mg "_pairs_behind" s__pairs_behind ["steps", "node"] f19 _ := ⟨F19, b19, PySem.W.mg_of X G a19⟩
  have F20 := fun_mk (st := s_sure_steps_of) l20 c20 k20
  have b20 := F20.binds (ps := ["expression"]) fun _ _ _ _ _ _ us hl => match us, hl with | [_], _ => rfl
  have D_sure_steps_of : Df K mg "sure_steps_of" s_sure_steps_of ["expression"] f20 _ := ⟨F20, b20, PySem.W.mg_of X G a20⟩
  have F21 := fun_mk (st := s_is_command) l21 c21 k21
  have b21 := F21.binds (ps := ["value"]) fun _ _ _ _ _ _ us hl => match us, hl with | [_], _ => rfl
  have D_is_command : Df K mg "is_command" s_is_command ["value"] f21 _ := ⟨F21, b21, PySem.W.mg_of X G a21⟩
  have F22 := fun_mk (st := s_places_behind_command) l22 c22 k22
  have b22 := F22.binds (ps := ["steps", "read", "command"]) fun _ _ _ _ _ _ us hl => match us, hl with | [_, _, _], _ => rfl
  have D_places_behind_command : Df K mg "places_behind_command" s_places_behind_command ["steps", "read", "command"] f22 _ := ⟨F22, b22, PySem.W.mg_of X G a22⟩
  have F23 := fun_mk (st := s_near_places) l23 c23 k23
  have b23 := F23.binds (ps := ["steps", "read"]) fun _ _ _ _ _ _ us hl => match us, hl with | [_, _], _ => rfl
  have D_near_places : Df K mg "near_places" s_near_places ["steps", "read"] f23 _ := ⟨F23, b23, PySem.W.mg_of X G a23⟩
  have F24 := fun_mk (st := s__place_of) l24 c24 k24
  have b24 := F24.binds (ps := ["steps", "read", "letter"]) fun _ _ _ _ _ _ us hl => match us, hl with | [_, _, _], _ => rfl
  have D__place_of : Df K mg "_place_of" s__place_of ["steps", "read", "letter"] f24 _ := ⟨F24, b24, PySem.W.mg_of X G a24⟩
  have F25 := fun_mk (st := s_can_end) l25 c25 k25
  have b25 := F25.binds (ps := ["steps", "read"]) fun _ _ _ _ _ _ us hl => match us, hl with | [_, _], _ => rfl
  have D_can_end : Df K mg "can_end" s_can_end ["steps", "read"] f25 _ := ⟨F25, b25, PySem.W.mg_of X G a25⟩
  have F26 := fun_mk (st := s__law_stream) l26 c26 k26
  have b26 := F26.binds (ps := ["_law_script"]) fun _ _ _ _ _ _ us hl => match us, hl with | [_], _ => rfl
  have D__law_stream : Df K mg "_law_stream" s__law_stream ["_law_script"] f26 _ := ⟨F26, b26, PySem.W.mg_of X G a26⟩
  have F27 := fun_mk (st := s__law_next) l27 c27 k27
  have b27 := F27.binds (ps := ["_law_stream_here", "_law_many"]) fun _ _ _ _ _ _ us hl => match us, hl with | [_, _], _ => rfl
  have D__law_next : Df K mg "_law_next" s__law_next ["_law_stream_here", "_law_many"] f27 _ := ⟨F27, b27, PySem.W.mg_of X G a27⟩
  have F28 := fun_mk (st := s__law_is_integer) l28 c28 k28
  have b28 := F28.binds (ps := ["_law_actual"]) fun _ _ _ _ _ _ us hl => match us, hl with | [_], _ => rfl
  have D__law_is_integer : Df K mg "_law_is_integer" s__law_is_integer ["_law_actual"] f28 _ := ⟨F28, b28, PySem.W.mg_of X G a28⟩
  have F29 := fun_mk (st := s__law_equal) l29 c29 k29
  have b29 := F29.binds (ps := ["_law_actual", "_law_due"]) fun _ _ _ _ _ _ us hl => match us, hl with | [_, _], _ => rfl
  have D__law_equal : Df K mg "_law_equal" s__law_equal ["_law_actual", "_law_due"] f29 _ := ⟨F29, b29, PySem.W.mg_of X G a29⟩
  have F30 := fun_mk (st := s__law_made) l30 c30 k30
  have b30 := F30.binds (ps := ["_law_stream_here", "_law_letters_here", "_law_places", "_law_deep", "_law_outer", "_law_used"]) fun _ _ _ _ _ _ us hl => match us, hl with | [_, _, _, _, _, _], _ => rfl
  have D__law_made : Df K mg "_law_made" s__law_made ["_law_stream_here", "_law_letters_here", "_law_places", "_law_deep", "_law_outer", "_law_used"] f30 _ := ⟨F30, b30, PySem.W.mg_of X G a30⟩
  have F31 := fun_mk (st := s__law_letters) l31 c31 k31
  have b31 := F31.binds (ps := ["_law_expression"]) fun _ _ _ _ _ _ us hl => match us, hl with | [_], _ => rfl
  have D__law_letters : Df K mg "_law_letters" s__law_letters ["_law_expression"] f31 _ := ⟨F31, b31, PySem.W.mg_of X G a31⟩
  have F32 := fun_mk (st := s__law_joined) l32 c32 k32
  have b32 := F32.binds (ps := ["_law_one", "_law_other"]) fun _ _ _ _ _ _ us hl => match us, hl with | [_, _], _ => rfl
  have D__law_joined : Df K mg "_law_joined" s__law_joined ["_law_one", "_law_other"] f32 _ := ⟨F32, b32, PySem.W.mg_of X G a32⟩
  have F33 := fun_mk (st := s__law_tables) l33 c33 k33
  have b33 := F33.binds (ps := ["_law_expression", "_law_start"]) fun _ _ _ _ _ _ us hl => match us, hl with | [_, _], _ => rfl
  have D__law_tables : Df K mg "_law_tables" s__law_tables ["_law_expression", "_law_start"] f33 _ := ⟨F33, b33, PySem.W.mg_of X G a33⟩
  have F34 := fun_mk (st := s__law_near) l34 c34 k34
  have b34 := F34.binds (ps := ["_law_expression", "_law_place"]) fun _ _ _ _ _ _ us hl => match us, hl with | [_, _], _ => rfl
  have D__law_near : Df K mg "_law_near" s__law_near ["_law_expression", "_law_place"] f34 _ := ⟨F34, b34, PySem.W.mg_of X G a34⟩
  have F35 := fun_mk (st := s__law_is_sure) l35 c35 k35
  have b35 := F35.binds (ps := ["_law_expression"]) fun _ _ _ _ _ _ us hl => match us, hl with | [_], _ => rfl
  have D__law_is_sure : Df K mg "_law_is_sure" s__law_is_sure ["_law_expression"] f35 _ := ⟨F35, b35, PySem.W.mg_of X G a35⟩
  have F36 := fun_mk (st := s__law_sure) l36 c36 k36
  have b36 := F36.binds (ps := ["_law_stream_here"]) fun _ _ _ _ _ _ us hl => match us, hl with | [_], _ => rfl
  have D__law_sure : Df K mg "_law_sure" s__law_sure ["_law_stream_here"] f36 _ := ⟨F36, b36, PySem.W.mg_of X G a36⟩
  have F37 := fun_mk (st := s__law_may_end) l37 c37 k37
  have b37 := F37.binds (ps := ["_law_expression", "_law_place"]) fun _ _ _ _ _ _ us hl => match us, hl with | [_, _], _ => rfl
  have D__law_may_end : Df K mg "_law_may_end" s__law_may_end ["_law_expression", "_law_place"] f37 _ := ⟨F37, b37, PySem.W.mg_of X G a37⟩
  have F38 := fun_mk (st := s__law_markings) l38 c38 k38
  have b38 := F38.binds (ps := ["_law_expression", "_law_word_here"]) fun _ _ _ _ _ _ us hl => match us, hl with | [_, _], _ => rfl
  have D__law_markings : Df K mg "_law_markings" s__law_markings ["_law_expression", "_law_word_here"] f38 _ := ⟨F38, b38, PySem.W.mg_of X G a38⟩
  have F39 := fun_mk (st := s__law_word) l39 c39 k39
  have b39 := F39.binds (ps := ["_law_stream_here", "_law_expression"]) fun _ _ _ _ _ _ us hl => match us, hl with | [_, _], _ => rfl
  have D__law_word : Df K mg "_law_word" s__law_word ["_law_stream_here", "_law_expression"] f39 _ := ⟨F39, b39, PySem.W.mg_of X G a39⟩
  have F40 := fun_mk (st := s__law_read) l40 c40 k40
  have b40 := F40.binds (ps := ["_law_reader", "_law_word_here"]) fun _ _ _ _ _ _ us hl => match us, hl with | [_, _], _ => rfl
  have D__law_read : Df K mg "_law_read" s__law_read ["_law_reader", "_law_word_here"] f40 _ := ⟨F40, b40, PySem.W.mg_of X G a40⟩
  have F41 := fun_mk (st := s_law) l41 c41 k41
  have b41 := F41.binds (ps := ["_law_script"]) fun _ _ _ _ _ _ us hl => match us, hl with | [_], _ => rfl
  have D_law : Df K mg "law" s_law ["_law_script"] f41 _ := ⟨F41, b41, PySem.W.mg_of X G a41⟩
  have B : Bt K mg aBOUNDS aBOUNDS tL tL := ⟨PySem.W.mg_none_of X G z_ValueError, PySem.W.mg_none_of X G z_abs, PySem.W.mg_none_of X G z_all, PySem.W.mg_none_of X G z_any, PySem.W.mg_none_of X G z_bool, PySem.W.mg_none_of X G z_enumerate, PySem.W.mg_none_of X G z_int, PySem.W.mg_none_of X G z_isinstance, PySem.W.mg_none_of X G z_len, PySem.W.mg_none_of X G z_list, PySem.W.mg_none_of X G z_max, PySem.W.mg_none_of X G z_range, PySem.W.mg_none_of X G z_sorted, PySem.W.mg_none_of X G z_str, PySem.W.mg_none_of X G z_super, PySem.W.mg_none_of X G z_tuple, PySem.W.mg_of X G gLETTERS, PySem.W.mg_of X G gBOUNDS, fun H => .inr ⟨_, _, _, lBOUNDS, rfl, rfl, (by show 3 ≤ sizeLine; decide), .cons ⟨_, rfl⟩ (.cons ⟨_, rfl⟩ (.cons ⟨_, rfl⟩ .nil))⟩, ⟨_, PySem.W.mg_of X G gBEGIN⟩, ⟨_, PySem.W.mg_of X G gMOST_COMMANDS⟩⟩
  have TNotPossible : ExNotPossible.Txt K mg CNotPossible fINotPossible := ⟨PySem.W.mg_of X G gCNotPossible, ⟨_, _, _, _, _, _, _, _, _, _, _, _, _, _, _, xLNotPossible, bmNotPossible'⟩, saNotPossible, gaNotPossible, ggNotPossible, nbNotPossible, iCNotPossible, tINotPossible, kCNotPossible, eCNotPossible, tCNotPossible, hCNotPossible, upNotPossible, mCNotPossible, sVNotPossible, sSNotPossible, opNotPossible, PySem.W.mg_none_of X G gSNotPossible, ⟨_, _, _, _, _, _, _, _, _, _, _, _, _, _, _, _, _, _, _, _, _, _, _, _, lINotPossible, cINotPossible, ⟨_, _, _, _, _, _, lDNotPossible, vDNotPossible, fDNotPossible⟩, ⟨_, _, _, lccNotPossible⟩, eLNotPossible⟩⟩
  have PNotPossible : ExNotPossible.Prg l.prog := ⟨pFNotPossible, pSNotPossible⟩
  have FI := fun_mk (st := s_Steps___init__) lI cI kI
  have bI := FI.binds (ps := ["self", "letters", "empty", "first", "last", "following"]) fun _ _ _ _ _ _ us hl => match us, hl with | [_, _, _, _, _, _], _ => rfl
  have T : StTxt K CS := ⟨⟨pgS, hdS, poS, saS⟩, n1, n2, n3, n4, n5⟩
  have FR_init := fun_mk (st := s_Reader___init__) lR_init cR_init kR_init
  have bR_init := FR_init.binds (ps := ["self", "expression"]) fun _ _ _ _ _ _ us hl => match us, hl with | [_, _], _ => rfl
  have FR_act := fun_mk (st := s_Reader_act) lR_act cR_act kR_act
  have bR_act := FR_act.binds (ps := ["self", "command"]) fun _ _ _ _ _ _ us hl => match us, hl with | [_, _], _ => rfl
  have D_Reader_act : DfM K CR "act" "Reader.act" s_Reader_act ["self", "command"] fR_act _ := ⟨FR_act, bR_act, ⟨atR_act, fnR_act, kR_act⟩, ⟨pgR, hdR, poR, saR⟩⟩
  have FR_places := fun_mk (st := s_Reader_places) lR_places cR_places kR_places
  have bR_places := FR_places.binds (ps := ["self"]) fun _ _ _ _ _ _ us hl => match us, hl with | [_], _ => rfl
  have D_Reader_places : DfM K CR "places" "Reader.places" s_Reader_places ["self"] fR_places _ := ⟨FR_places, bR_places, ⟨atR_places, fnR_places, kR_places⟩, ⟨pgR, hdR, poR, saR⟩⟩
  have FR_may_end := fun_mk (st := s_Reader_may_end) lR_may_end cR_may_end kR_may_end
  have bR_may_end := FR_may_end.binds (ps := ["self"]) fun _ _ _ _ _ _ us hl => match us, hl with | [_], _ => rfl
  have D_Reader_may_end : DfM K CR "may_end" "Reader.may_end" s_Reader_may_end ["self"] fR_may_end _ := ⟨FR_may_end, bR_may_end, ⟨atR_may_end, fnR_may_end, kR_may_end⟩, ⟨pgR, hdR, poR, saR⟩⟩
  have TR : RdTxt K CR := ⟨⟨pgR, hdR, poR, saR⟩, naR0, naR1, naR2, naR3⟩
  have e := hfa.symm.trans D_law.g
  cases e
  refine ⟨(PySem.W.fnOf "law" "law" (defArgs s_law) (defBody s_law) (defScope s_law) .none kV41 dc41 pm41 an41 cd41 ct41), fun s v => .of_eq rfl, fun base _ _ => ?_⟩
  have MS : Ck l.prog w K mg base 1 "Steps" ["self", "letters", "empty", "first", "last", "following"] (spInit CS) CS := ⟨fI, _, ⟨mkS, aI, iI, kcS⟩, ok_stepsinit FI T, bI, PySem.W.mg_of X G aS⟩
  have C__law_stream := D__law_stream.cl (ok_stream (P := l.prog) (w := w) (base := base) B D__law_stream)
  have C__law_next := D__law_next.cl (ok_next (P := l.prog) (w := w) (base := base) B D__law_next)
  have C__law_made := D__law_made.cl (ok_made (P := l.prog) (w := w) (base := base) B D__law_made C__law_next)
  have C__law_joined := D__law_joined.cl (ok_joined (P := l.prog) (w := w) (base := base) B D__law_joined)
  have C__law_letters := D__law_letters.cl (all2_letters2_step (P := l.prog) (w := w) (base := base) B D__law_letters 13)
  have C__law_tables := D__law_tables.cl (ok_tables (P := l.prog) (w := w) (base := base) B D__law_tables C__law_joined C__law_letters)
  have C__law_near := D__law_near.cl (ok_nearL (P := l.prog) (w := w) (base := base) B D__law_near C__law_tables C__law_letters)
  have C__law_is_sure := D__law_is_sure.cl (ok_sureL (P := l.prog) (w := w) (base := base) B D__law_is_sure C__law_near C__law_letters)
  have C__law_sure := D__law_sure.cl (ok_sureD (P := l.prog) (w := w) (base := base) B D__law_sure C__law_next C__law_made C__law_is_sure)
  have C__law_word := D__law_word.cl (ok_wordL (P := l.prog) (w := w) (base := base) B D__law_word C__law_next C__law_near C__law_letters)
  have C_is_letter := D_is_letter.cl (ok_letter (P := l.prog) (w := w) (base := base) B D_is_letter)
  have C_is_command := D_is_command.cl (ok_iscmd (P := l.prog) (w := w) (base := base) B D_is_command C_is_letter)
  have C_near_places := D_near_places.cl (ok_nearP (P := l.prog) (w := w) (base := base) T B D_near_places)
  have C__place_of := D__place_of.cl (ok_placeof (P := l.prog) (w := w) (base := base) T B D__place_of C_near_places)
  have C_places_behind_command := D_places_behind_command.cl (ok_pbc (P := l.prog) (w := w) (base := base) T B D_places_behind_command C__place_of)
  have C_Reader_act := D_Reader_act.mtX (mg := mg) (ok_act (P := l.prog) (w := w) (base := base) (CS := CS) TR B D_Reader_act TNotPossible PNotPossible C_is_command C_places_behind_command)
  have C__law_read := D__law_read.cl (ok_readL (P := l.prog) (w := w) (base := base) (CS := CS) B D__law_read TNotPossible C_Reader_act)
  have C__law_may_end := D__law_may_end.cl (ok_mayL (P := l.prog) (w := w) (base := base) B D__law_may_end C__law_tables)
  have C__law_markings := D__law_markings.cl (ok_marksL (P := l.prog) (w := w) (base := base) B D__law_markings C__law_near C__law_letters C__law_may_end)
  have C__law_is_integer := D__law_is_integer.cl (ok_isint (P := l.prog) (w := w) (base := base) B D__law_is_integer)
  have C__law_equal := D__law_equal.cl (all2_equal_step (P := l.prog) (w := w) (base := base) B D__law_equal C__law_is_integer 4)
  have C__begins_with := D__begins_with.cl (ok_begins (P := l.prog) (w := w) (base := base) B D__begins_with)
  have C__is_row := D__is_row.cl (ok_isrow (P := l.prog) (w := w) (base := base) B D__is_row C__begins_with)
  have C__parts_of := D__parts_of.cl (ok_parts (P := l.prog) (w := w) (base := base) B D__parts_of C_is_letter C__is_row)
  have C_sizes_within := D_sizes_within.cl (ok_sizes (P := l.prog) (w := w) (base := base) B D_sizes_within C__parts_of)
  have C_is_expression := D_is_expression.cl (ok_isexpr (P := l.prog) (w := w) (base := base) B D_is_expression C_sizes_within)
  have C_check_expression := D_check_expression.clD (ok_checkexpr (P := l.prog) (w := w) (base := base) B D_check_expression C_is_expression)
  have C__link := D__link.cl (ok_link (P := l.prog) (w := w) (base := base) B D__link)
  have C__ends_of_leaf := D__ends_of_leaf.cl (ok_leaf (P := l.prog) (w := w) (base := base) B D__ends_of_leaf)
  have C__ends_of := D__ends_of.cl (all_ends (P := l.prog) (w := w) (base := base) B D__ends_of D__ends_of_join D__ends_of_or C__link C__ends_of_leaf 42)
  have C_steps_of := D_steps_of.cl (ok_stepsof (P := l.prog) (w := w) (base := base) B D_steps_of C__ends_of MS)
  have C__nodes := D__nodes.cl (ok_nodes (P := l.prog) (w := w) (base := base) T B D__nodes)
  have C_by_letter := D_by_letter.cl (ok_byletter (P := l.prog) (w := w) (base := base) T B D_by_letter)
  have C__near := D__near.cl (ok_near (P := l.prog) (w := w) (base := base) T B D__near)
  have C__pairs_behind := D__pairs_behind.cl (ok_pairs (P := l.prog) (w := w) (base := base) T B D__pairs_behind C_by_letter C__near)
  have C_has_conflict := D_has_conflict.cl (ok_hasc (P := l.prog) (w := w) (base := base) T B D_has_conflict C__nodes C__pairs_behind)
  have C_sure_steps_of := D_sure_steps_of.clX (ok_suresteps (P := l.prog) (w := w) (base := base) T B D_sure_steps_of TNotPossible PNotPossible C_check_expression C_steps_of C_has_conflict)
  have MRk : Ck l.prog w K mg base 89 "Reader" ["self", "expression"] (spRdInit CR CS) CR := ⟨fR_init, _, ⟨mkR, atR_init, fnR_init, kcR⟩, ok_readerinit FR_init TR C_sure_steps_of, bR_init, PySem.W.mg_of X G aR⟩
  have C_can_end := D_can_end.cl (ok_canend (P := l.prog) (w := w) (base := base) T B D_can_end)
  have C_Reader_may_end := D_Reader_may_end.mt (mg := mg) (ok_mayend (P := l.prog) (w := w) (base := base) (CS := CS) TR B D_Reader_may_end C_can_end)
  have C_Reader_places := D_Reader_places.mt (mg := mg) (ok_plsR (P := l.prog) (w := w) (base := base) (CS := CS) TR B D_Reader_places)
  exact ok_law B D_law C__law_stream C__law_sure C__law_word C__law_read C__law_markings C__law_equal MRk C_Reader_may_end C_Reader_places
theorem walk {l : PySem.W.OpenLaw} {q : Program} {loose : List Str} {XP : (Str → Option Value) → Heap → Prop} {YP : World → Heap → Prop} {d : DefRec} {K : Params → PySem.W.Frag} (hn : l.most = some 63) (hdf : d.params.defaults = [])
    (hY : ∀ (w : World) (h : Heap), YP w h → (K w.params).In h)
    (F : ∀ (w : World) (mg : Str → Option Value) (fa : Addr) (h : Heap), (K w.params).In h → h.Ns mainGlobals mg → mg d.name = some (.ref fa) →
      ∃ fd : FuncData, (∀ (s : Shared) (u : Value), BindsTo s fd ⟨[u], []⟩ [("_law_script", u)]) ∧ ∀ base : Heap, (K w.params).In base → base.Ns mainGlobals mg → FnOk l.prog w (K w.params) mg base CX0 91 fa fd ["_law_script"] (spLaw (K w.params))) :
    PySem.W.WalkO q loose XP YP l.row.toRowW d [] (fun f vs => PySem.call f vs) :=
  L2.walk_of (n := 63) (k := 91) (x := "_law_script") (CX := fun _ => CX0) (sp := fun w => spLaw (K w.params)) hn (by decide) hdf ⟨rfl, by decide, by decide⟩ hY F (fun _ _ a ns hl _ hS => ⟨a, ns, rfl, hS, hl, fun _ => rfl⟩) fun _ _ _ _ _ z => z
end My
open PySem PySem.W PyProof.Rows
set_option maxRecDepth 100000 in
set_option maxHeartbeats 0 in
theorem PySem.Challenge.cw_nodoubt_k83_whole_right_words_read_holds : PySem.Challenge.rw_nodoubt_k83_whole_right_words_read.Holds := by
  w_on; o_law; k_head; (case hw => w_witness2)
  k_fill
  refine My.walk (l := PySem.Challenge.rw_nodoubt_k83_whole_right_words_read) rfl rfl (fun w h Y => PySem.W.kIn_of Y) ?F
  case F =>
    intro w mg fa h KX G hmg
    refine' My.all_mk KX G hmg ?a1 ?l1 ?c1 ?k1 ?a2 ?l2 ?c2 ?k2 ?a3 ?l3 ?c3 ?k3 ?a4 ?l4 ?c4 ?k4 ?a5 ?l5 ?c5 ?k5 ?a6 ?l6 ?c6 ?k6 ?a7 ?l7 ?c7 ?k7 ?a8 ?l8 ?c8 ?k8 ?a9 ?l9 ?c9 ?k9 ?a10 ?l10 ?c10 ?k10 ?m11 ?a11 ?l11 ?c11 ?k11 ?a12 ?l12 ?c12 ?k12 ?a13 ?l13 ?c13 ?k13 ?a14 ?l14 ?c14 ?k14 ?a15 ?l15 ?c15 ?k15 ?a16 ?l16 ?c16 ?k16 ?a17 ?l17 ?c17 ?k17 ?a18 ?l18 ?c18 ?k18 ?a19 ?l19 ?c19 ?k19 ?a20 ?l20 ?c20 ?k20 ?a21 ?l21 ?c21 ?k21 ?a22 ?l22 ?c22 ?k22 ?a23 ?l23 ?c23 ?k23 ?a24 ?l24 ?c24 ?k24 ?a25 ?l25 ?c25 ?k25 ?a26 ?l26 ?c26 ?k26 ?a27 ?l27 ?c27 ?k27 ?a28 ?l28 ?c28 ?k28 ?a29 ?l29 ?c29 ?k29 ?a30 ?l30 ?c30 ?k30 ?a31 ?l31 ?c31 ?k31 ?a32 ?l32 ?c32 ?k32 ?a33 ?l33 ?c33 ?k33 ?a34 ?l34 ?c34 ?k34 ?a35 ?l35 ?c35 ?k35 ?a36 ?l36 ?c36 ?k36 ?a37 ?l37 ?c37 ?k37 ?a38 ?l38 ?c38 ?k38 ?a39 ?l39 ?c39 ?k39 ?a40 ?l40 ?c40 ?k40 ?a41 ?l41 ?c41 ?k41 ?z_ValueError ?z_abs ?z_all ?z_any ?z_bool ?z_enumerate ?z_int ?z_isinstance ?z_len ?z_list ?z_max ?z_range ?z_sorted ?z_str ?z_super ?z_tuple ?gBOUNDS ?lBOUNDS ?gLETTERS ?gBEGIN ?gMOST_COMMANDS ?aS ?aI ?iI ?lI ?cI ?kI ?pgS ?hdS ?poS ?saS ?mkS ?kcS ?n1 ?n2 ?n3 ?n4 ?n5 ?aR ?atR_init ?fnR_init ?lR_init ?cR_init ?kR_init ?atR_act ?fnR_act ?lR_act ?cR_act ?kR_act ?atR_places ?fnR_places ?lR_places ?cR_places ?kR_places ?atR_may_end ?fnR_may_end ?lR_may_end ?cR_may_end ?kR_may_end ?pgR ?hdR ?poR ?saR ?mkR ?kcR ?naR0 ?naR1 ?naR2 ?naR3 ?gCNotPossible ?xLNotPossible ?bmNotPossible' ?saNotPossible ?gaNotPossible ?ggNotPossible ?nbNotPossible ?iCNotPossible ?tINotPossible ?kCNotPossible ?eCNotPossible ?tCNotPossible ?hCNotPossible ?upNotPossible ?mCNotPossible ?sVNotPossible ?sSNotPossible ?opNotPossible ?gSNotPossible ?lINotPossible ?cINotPossible ?lDNotPossible ?vDNotPossible ?fDNotPossible ?lccNotPossible ?eLNotPossible ?pFNotPossible ?pSNotPossible
    (case a1 => k_is); (case l1 => k_is); (case c1 => k_is); (case k1 => k_is); (case a2 => k_is); (case l2 => k_is); (case c2 => k_is); (case k2 => k_is); (case a3 => k_is); (case l3 => k_is); (case c3 => k_is); (case k3 => k_is); (case a4 => k_is); (case l4 => k_is); (case c4 => k_is); (case k4 => k_is); (case a5 => k_is); (case l5 => k_is); (case c5 => k_is); (case k5 => k_is); (case a6 => k_is); (case l6 => k_is); (case c6 => k_is); (case k6 => k_is); (case a7 => k_is); (case l7 => k_is); (case c7 => k_is); (case k7 => k_is); (case a8 => k_is); (case l8 => k_is); (case c8 => k_is); (case k8 => k_is); (case a9 => k_is); (case l9 => k_is); (case c9 => k_is); (case k9 => k_is); (case a10 => k_is); (case l10 => k_is); (case c10 => k_is); (case k10 => k_is); (case a11 => k_is); (case l11 => k_is); (case c11 => k_is); (case k11 => k_is); (case a12 => k_is); (case l12 => k_is); (case c12 => k_is); (case k12 => k_is); (case a13 => k_is); (case l13 => k_is); (case c13 => k_is); (case k13 => k_is); (case a14 => k_is); (case l14 => k_is); (case c14 => k_is); (case k14 => k_is); (case a15 => k_is); (case l15 => k_is); (case c15 => k_is); (case k15 => k_is); (case a16 => k_is); (case l16 => k_is); (case c16 => k_is); (case k16 => k_is); (case a17 => k_is); (case l17 => k_is); (case c17 => k_is); (case k17 => k_is); (case a18 => k_is); (case l18 => k_is); (case c18 => k_is); (case k18 => k_is); (case a19 => k_is); (case l19 => k_is); (case c19 => k_is); (case k19 => k_is); (case a20 => k_is); (case l20 => k_is); (case c20 => k_is); (case k20 => k_is); (case a21 => k_is); (case l21 => k_is); (case c21 => k_is); (case k21 => k_is); (case a22 => k_is); (case l22 => k_is); (case c22 => k_is); (case k22 => k_is); (case a23 => k_is); (case l23 => k_is); (case c23 => k_is); (case k23 => k_is); (case a24 => k_is); (case l24 => k_is); (case c24 => k_is); (case k24 => k_is); (case a25 => k_is); (case l25 => k_is); (case c25 => k_is); (case k25 => k_is); (case a26 => k_is); (case l26 => k_is); (case c26 => k_is); (case k26 => k_is); (case a27 => k_is); (case l27 => k_is); (case c27 => k_is); (case k27 => k_is); (case a28 => k_is); (case l28 => k_is); (case c28 => k_is); (case k28 => k_is); (case a29 => k_is); (case l29 => k_is); (case c29 => k_is); (case k29 => k_is); (case a30 => k_is); (case l30 => k_is); (case c30 => k_is); (case k30 => k_is); (case a31 => k_is); (case l31 => k_is); (case c31 => k_is); (case k31 => k_is); (case a32 => k_is); (case l32 => k_is); (case c32 => k_is); (case k32 => k_is); (case a33 => k_is); (case l33 => k_is); (case c33 => k_is); (case k33 => k_is); (case a34 => k_is); (case l34 => k_is); (case c34 => k_is); (case k34 => k_is); (case a35 => k_is); (case l35 => k_is); (case c35 => k_is); (case k35 => k_is); (case a36 => k_is); (case l36 => k_is); (case c36 => k_is); (case k36 => k_is); (case a37 => k_is); (case l37 => k_is); (case c37 => k_is); (case k37 => k_is); (case a38 => k_is); (case l38 => k_is); (case c38 => k_is); (case k38 => k_is); (case a39 => k_is); (case l39 => k_is); (case c39 => k_is); (case k39 => k_is); (case a40 => k_is); (case l40 => k_is); (case c40 => k_is); (case k40 => k_is); (case a41 => k_is); (case l41 => k_is); (case c41 => k_is); (case k41 => k_is); (case z_ValueError => k_is); (case z_abs => k_is); (case z_all => k_is); (case z_any => k_is); (case z_bool => k_is); (case z_enumerate => k_is); (case z_int => k_is); (case z_isinstance => k_is); (case z_len => k_is); (case z_list => k_is); (case z_max => k_is); (case z_range => k_is); (case z_sorted => k_is); (case z_str => k_is); (case z_super => k_is); (case z_tuple => k_is); (case m11 => k_is)
    (case gBOUNDS => first | k_is | rfl | decide +kernel)
    (case lBOUNDS => first | k_is | rfl | decide +kernel)
    (case gLETTERS => first | k_is | rfl | decide +kernel)
    (case gBEGIN => first | k_is | rfl | decide +kernel)
    (case gMOST_COMMANDS => first | k_is | rfl | decide +kernel)
    (case aS => first | k_is | rfl | decide +kernel)
    (case aI => first | k_is | rfl | decide +kernel)
    (case iI => first | k_is | rfl | decide +kernel)
    (case lI => first | k_is | rfl | decide +kernel)
    (case cI => first | k_is | rfl | decide +kernel)
    (case kI => first | k_is | rfl | decide +kernel)
    (case pgS => first | k_is | rfl | decide +kernel)
    (case hdS => first | k_is | rfl | decide +kernel)
    (case poS => first | k_is | rfl | decide +kernel)
    (case saS => first | k_is | rfl | decide +kernel)
    (case mkS => first | k_is | rfl | decide +kernel)
    (case kcS => first | k_is | rfl | decide +kernel)
    (case n1 => first | k_is | rfl | decide +kernel)
    (case n2 => first | k_is | rfl | decide +kernel)
    (case n3 => first | k_is | rfl | decide +kernel)
    (case n4 => first | k_is | rfl | decide +kernel)
    (case n5 => first | k_is | rfl | decide +kernel)
    (case aR => first | k_is | rfl | decide +kernel)
    (case atR_init => first | k_is | rfl | decide +kernel)
    (case fnR_init => first | k_is | rfl | decide +kernel)
    (case lR_init => first | k_is | rfl | decide +kernel)
    (case cR_init => first | k_is | rfl | decide +kernel)
    (case kR_init => first | k_is | rfl | decide +kernel)
    (case atR_act => first | k_is | rfl | decide +kernel)
    (case fnR_act => first | k_is | rfl | decide +kernel)
    (case lR_act => first | k_is | rfl | decide +kernel)
    (case cR_act => first | k_is | rfl | decide +kernel)
    (case kR_act => first | k_is | rfl | decide +kernel)
    (case atR_places => first | k_is | rfl | decide +kernel)
    (case fnR_places => first | k_is | rfl | decide +kernel)
    (case lR_places => first | k_is | rfl | decide +kernel)
    (case cR_places => first | k_is | rfl | decide +kernel)
    (case kR_places => first | k_is | rfl | decide +kernel)
    (case atR_may_end => first | k_is | rfl | decide +kernel)
    (case fnR_may_end => first | k_is | rfl | decide +kernel)
    (case lR_may_end => first | k_is | rfl | decide +kernel)
    (case cR_may_end => first | k_is | rfl | decide +kernel)
    (case kR_may_end => first | k_is | rfl | decide +kernel)
    (case pgR => first | k_is | rfl | decide +kernel)
    (case hdR => first | k_is | rfl | decide +kernel)
    (case poR => first | k_is | rfl | decide +kernel)
    (case saR => first | k_is | rfl | decide +kernel)
    (case mkR => first | k_is | rfl | decide +kernel)
    (case kcR => first | k_is | rfl | decide +kernel)
    (case naR0 => first | k_is | rfl | decide +kernel)
    (case naR1 => first | k_is | rfl | decide +kernel)
    (case naR2 => first | k_is | rfl | decide +kernel)
    (case naR3 => first | k_is | rfl | decide +kernel)
    (case gCNotPossible => first | k_is | rfl | decide +kernel)
    (case xLNotPossible => first | k_is | rfl | decide +kernel)
    (case bmNotPossible' => first | k_is | rfl | decide +kernel)
    (case saNotPossible => first | k_is | rfl | decide +kernel)
    (case gaNotPossible => first | k_is | rfl | decide +kernel)
    (case ggNotPossible => first | k_is | rfl | decide +kernel)
    (case nbNotPossible => first | k_is | rfl | decide +kernel)
    (case iCNotPossible => first | k_is | rfl | decide +kernel)
    (case tINotPossible => first | k_is | rfl | decide +kernel)
    (case kCNotPossible => first | k_is | rfl | decide +kernel)
    (case eCNotPossible => first | k_is | rfl | decide +kernel)
    (case tCNotPossible => first | k_is | rfl | decide +kernel)
    (case hCNotPossible => first | k_is | rfl | decide +kernel)
    (case upNotPossible => first | k_is | rfl | decide +kernel)
    (case mCNotPossible => first | k_is | rfl | decide +kernel)
    (case sVNotPossible => first | k_is | rfl | decide +kernel)
    (case sSNotPossible => first | k_is | rfl | decide +kernel)
    (case opNotPossible => first | k_is | rfl | decide +kernel)
    (case gSNotPossible => first | k_is | rfl | decide +kernel)
    (case lINotPossible => first | k_is | rfl | decide +kernel)
    (case cINotPossible => first | k_is | rfl | decide +kernel)
    (case lDNotPossible => first | k_is | rfl | decide +kernel)
    (case vDNotPossible => first | k_is | rfl | decide +kernel)
    (case fDNotPossible => first | k_is | rfl | decide +kernel)
    (case lccNotPossible => first | k_is | rfl | decide +kernel)
    (case eLNotPossible => first | k_is | rfl | decide +kernel)
    (case pFNotPossible => first | k_is | rfl | decide +kernel)
    (case pSNotPossible => first | k_is | rfl | decide +kernel)
