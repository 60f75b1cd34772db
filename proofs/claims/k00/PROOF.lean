import PyProof.Rows.All
import Wide.All
import OpenK.AllK
import Wide.FinOn
import Lean
import KE.KStateDown
import KE.LtSeq
import HandS.ForMost
import HandS.Evl
import HandS.Exc
import HandS.TryOnly
import HandS.ExcOwn
import HandS.ExcInit
import HandS.ExcIs
import HandS.ExcField
import KE.KExcIs
import HandS.WordsExc
import HandS.Defaults
import HandS.Style
import HandS.Flow
import HandS.IsInst
import HandS.AnyAll
import HandS.Codes
import HandS.Conv
import HandS.Replace
import HandS.Head0
import HandS.Head1
import HandS.Head2
import HandS.HeadEnd
import HandS.HeadHook1
import HandS.HeadHook2
import HandS.HeadHook3
import HandS.HeadHook4
import HandS.HeadWalk
import PySem.Challenge.RW_windowtable_k00_values_in_order
set_option Elab.async false
set_option linter.all false
set_option maxRecDepth 100000
set_option maxHeartbeats 4000000
/-! # One's own layer over the hand layer: heaps that grow, data by what it is, promises by functions -/
namespace Z
open PySem PySem.Spec PyProof.Rows L2 GxR

/-! ### heaps: what stands outside of C stays; I is known of C's objects -/
def Kp (C : Addr → Prop) (H H' : Hp) : Prop := ∀ a o, ¬ C a → H a = some o → H' a = some o
def Xt (C : Addr → Prop) (I : Hp → Prop) (H H' : Hp) : Prop := Kp C H H' ∧ I H'
theorem Kp.refl {C : Addr → Prop} (H : Hp) : Kp C H H := fun _ _ _ h => h
theorem Kp.trans {C : Addr → Prop} {A B D : Hp} (a : Kp C A B) (b : Kp C B D) : Kp C A D := fun x o n h => b x o n (a x o n h)
theorem Xt.refl {C : Addr → Prop} {I : Hp → Prop} {H : Hp} (i : I H) : Xt C I H H := ⟨Kp.refl H, i⟩
theorem Xt.trans {C : Addr → Prop} {I : Hp → Prop} {A B D : Hp} (a : Xt C I A B) (b : Xt C I B D) : Xt C I A D := ⟨a.1.trans b.1, b.2⟩
/-- C, I go together; cs: tables of code objects, that may grow -/
structure Wd (cs : List Addr) (C : Addr → Prop) (I : Hp → Prop) : Prop where
  ne : ∀ H a, I H → C a → ∃ o, H a = some o
  stay : ∀ H H', I H → (∀ a, C a → H' a = H a) → I H'
  tabC : ∀ P ∈ cs, C P
  tabG : ∀ P ∈ cs, ∀ H, I H → TabG H P
  tabS : ∀ P ∈ cs, ∀ H H', I H → TabG H' P → (∀ b, b ≠ P → H' b = H b) → I H'
section
variable {cs : List Addr} {C : Addr → Prop} {I : Hp → Prop} {H H' H1 : Hp} {p : Addr} {o : HO}
theorem Wd.new (W : Wd cs C I) (i : I H) (h : H p = none) : ¬ C p := fun c => by
  obtain ⟨o, e⟩ := W.ne H p i c
  rw [h] at e
  cases e
/-- fresh behind is fresh ahead -/
theorem Xt.old (W : Wd cs C I) (x : Xt C I H H') (h : H' p = none) : H p = none := by
  cases e : H p with
  | none => rfl
  | some o =>
    have n := W.new x.2 h
    rw [x.1 p o n e] at h
    cases h
theorem Xt.put (W : Wd cs C I) (x : Xt C I H H') (h : H' p = none) : Xt C I H (upd H' p o) := by
  have n := W.new x.2 h
  refine ⟨fun a u na e => ?_, W.stay H' _ x.2 fun a ca => upd_ne fun z => n (z ▸ ca)⟩
  have e' := x.1 a u na e
  rw [upd_ne (ne_of_none e' h)]
  exact e'
/-- an object that H does not know, and that is none of C, changes -/
theorem Xt.mut (W : Wd cs C I) (x : Xt C I H H') (h : H p = none) (n : ¬ C p) : Xt C I H (upd H' p o) := by
  refine ⟨fun a u na e => ?_, W.stay H' _ x.2 fun a ca => upd_ne fun z => n (z ▸ ca)⟩
  have e' := x.1 a u na e
  rw [upd_ne (ne_of_none e h)]
  exact e'
theorem Xt.tab (W : Wd cs C I) (x : Xt C I H H') {P : Addr} (hP : P ∈ cs) (t : Tabbed P H' H1) : Xt C I H H1 :=
  ⟨fun a u na e => by
    have e' := x.1 a u na e
    rw [t.2 a fun z => na (z ▸ W.tabC P hP)]
    exact e', W.tabS P hP H' H1 x.2 t.1 t.2⟩
end

/-! ### what a list, a tuple holds, for good -/
def StL (K : PySem.W.Frag) (C : Addr → Prop) (H : Hp) (a : Addr) (xs : List V) : Prop := (¬ C a ∧ Rd H a (.lst xs)) ∨ ∀ H', SqL K H' a xs
def StT (K : PySem.W.Frag) (C : Addr → Prop) (H : Hp) (a : Addr) (xs : List V) : Prop := (¬ C a ∧ Rd H a (.tup xs)) ∨ ∀ H', SqT K H' a xs
section
variable {K : PySem.W.Frag} {C : Addr → Prop} {I : Hp → Prop} {H H' : Hp} {a : Addr} {xs : List V} {u : HO}
theorem Kp.rd (k : Kp C H H') (n : ¬ C a) (h : Rd H a u) : Rd H' a u := by
  rcases h with h | ⟨o, h⟩
  · exact Or.inl (k a _ n h)
  · exact Or.inr ⟨o, k a _ n h⟩
theorem StL.mono (k : Kp C H H') (h : StL K C H a xs) : StL K C H' a xs := by
  rcases h with ⟨n, h⟩ | h
  · exact Or.inl ⟨n, k.rd n h⟩
  · exact Or.inr h
theorem StT.mono (k : Kp C H H') (h : StT K C H a xs) : StT K C H' a xs := by
  rcases h with ⟨n, h⟩ | h
  · exact Or.inl ⟨n, k.rd n h⟩
  · exact Or.inr h
theorem StL.sq (h : StL K C H a xs) : SqL K H a xs := by
  rcases h with ⟨_, h⟩ | h
  · exact Or.inl h
  · exact h H
theorem StT.sq (h : StT K C H a xs) : SqT K H a xs := by
  rcases h with ⟨_, h⟩ | h
  · exact Or.inl h
  · exact h H
theorem StL.of (n : ¬ C a) (h : H a = some (.lst xs)) : StL K C H a xs := Or.inl ⟨n, Or.inl h⟩
theorem StT.of (n : ¬ C a) (h : H a = some (.tup xs)) : StT K C H a xs := Or.inl ⟨n, Or.inl h⟩
end

/-- a list that may be had as it stands -/
def StM (C : Addr → Prop) (H : Hp) (a : Addr) (xs : List V) : Prop := ¬ C a ∧ H a = some (.lst xs)
section
variable {K : PySem.W.Frag} {C : Addr → Prop} {H H' : Hp} {a : Addr} {xs : List V}
theorem StM.mono (k : Kp C H H') (h : StM C H a xs) : StM C H' a xs := ⟨h.1, k a _ h.1 h.2⟩
theorem StM.sq (h : StM C H a xs) : SqL K H a xs := .of h.2
theorem StM.st (h : StM C H a xs) : StL K C H a xs := .of h.1 h.2
end

/-! ### data -/
mutual
inductive Rp (K : PySem.W.Frag) (C : Addr → Prop) (H : Hp) : V → PyData → Prop
  | non : Rp K C H .non .none
  | bl (b : Bool) : Rp K C H (.bl b) (.bool b)
  | int (i : Int) : Rp K C H (.int i) (.int i)
  | str (x : Str) : Rp K C H (.str x) (.str x)
  | lst {a : Addr} {xs : List V} {ds : List PyData} : StM C H a xs → RpAll K C H xs ds → Rp K C H (.ref a) (.list ds)
  | tup {a : Addr} {xs : List V} {ds : List PyData} : StT K C H a xs → RpAll K C H xs ds → Rp K C H (.ref a) (.tuple ds)
inductive RpAll (K : PySem.W.Frag) (C : Addr → Prop) (H : Hp) : List V → List PyData → Prop
  | nil : RpAll K C H [] []
  | cons {v : V} {vs : List V} {d : PyData} {ds : List PyData} : Rp K C H v d → RpAll K C H vs ds → RpAll K C H (v :: vs) (d :: ds)
end
section
variable {K : PySem.W.Frag} {C : Addr → Prop} {I : Hp → Prop} {H H' : Hp}
mutual
theorem Rp.mono (k : Kp C H H') : ∀ {d : PyData} {v : V}, Rp K C H v d → Rp K C H' v d
  | _, _, .non => .non
  | _, _, .bl b => .bl b
  | _, _, .int i => .int i
  | _, _, .str x => .str x
  | .list _, _, .lst s r => .lst (s.mono k) (RpAll.mono k r)
  | .tuple _, _, .tup s r => .tup (s.mono k) (RpAll.mono k r)
theorem RpAll.mono (k : Kp C H H') : ∀ {ds : List PyData} {vs : List V}, RpAll K C H vs ds → RpAll K C H' vs ds
  | [], _, .nil => .nil
  | _ :: _, _, .cons h t => .cons (Rp.mono k h) (RpAll.mono k t)
end
mutual
theorem Rp.dp : ∀ {d : PyData} {v : V}, Rp K C H v d → Dp K H v d
  | _, _, .non => .non
  | _, _, .bl b => .bl b
  | _, _, .int i => .int i
  | _, _, .str x => .str x
  | .list _, _, .lst s r => .lst s.sq (RpAll.dp r)
  | .tuple _, _, .tup s r => .tup s.sq (RpAll.dp r)
theorem RpAll.dp : ∀ {ds : List PyData} {vs : List V}, RpAll K C H vs ds → DpAll K H vs ds
  | [], _, .nil => .nil
  | _ :: _, _, .cons h t => .cons (Rp.dp h) (RpAll.dp t)
end
theorem RpAll.len : ∀ {ds : List PyData} {vs : List V}, RpAll K C H vs ds → vs.length = ds.length
  | [], _, .nil => rfl
  | _ :: _, _, .cons _ t => congrArg (· + 1) (RpAll.len t)
theorem RpAll.at : ∀ {ds : List PyData} {vs : List V} {i : Nat} {v : V}, RpAll K C H vs ds → vs[i]? = some v → ∃ d, ds[i]? = some d ∧ Rp K C H v d
  | [], _, _, _, .nil, h => by simp at h
  | d :: _, v :: _, 0, w, .cons h _, e => ⟨d, rfl, by
    have e' : v = w := by simpa using e
    rw [← e']
    exact h⟩
  | _ :: _, _ :: _, i + 1, w, .cons _ t, e => by
    obtain ⟨d, h1, h2⟩ := RpAll.at (i := i) t (by simpa using e)
    exact ⟨d, by simpa using h1, h2⟩
theorem RpAll.get : ∀ {ds : List PyData} {vs : List V} {i : Nat} {d : PyData}, RpAll K C H vs ds → ds[i]? = some d → ∃ v, vs[i]? = some v ∧ Rp K C H v d
  | [], _, _, _, .nil, h => by simp at h
  | d :: _, v :: _, 0, w, .cons h _, e => ⟨v, rfl, by
    have e' : d = w := by simpa using e
    rw [← e']
    exact h⟩
  | _ :: _, _ :: _, i + 1, w, .cons _ t, e => by
    obtain ⟨d, h1, h2⟩ := RpAll.get (i := i) t (by simpa using e)
    exact ⟨d, by simpa using h1, h2⟩
theorem RpAll.app : ∀ {ds es : List PyData} {vs ws : List V}, RpAll K C H vs ds → RpAll K C H ws es → RpAll K C H (vs ++ ws) (ds ++ es)
  | [], _, _, _, .nil, s => s
  | _ :: _, _, _, _, .cons h t, s => .cons h (RpAll.app t s)
/-- a value that is no object -/
def flatD : PyData → Bool
  | .none => true
  | .bool _ => true
  | .int _ => true
  | .str _ => true
  | _ => false
def valD : PyData → V
  | .none => .non
  | .bool b => .bl b
  | .int i => .int i
  | .str x => .str x
  | _ => .non
theorem Rp.flat {v : V} {d : PyData} (h : Rp K C H v d) (f : flatD d = true) : v = valD d := by
  cases h with
  | lst _ _ => cases f
  | tup _ _ => cases f
  | _ => rfl
theorem Rp.of_flat {d : PyData} (f : flatD d = true) : Rp K C H (valD d) d := by
  cases d with
  | none => exact .non
  | bool b => exact .bl b
  | int i => exact .int i
  | str x => exact .str x
  | _ => cases f
theorem Rp.eq_bool {v : V} {b : Bool} (h : Rp K C H v (.bool b)) : v = .bl b := h.flat rfl
theorem Rp.eq_int {v : V} {i : Int} (h : Rp K C H v (.int i)) : v = .int i := h.flat rfl
theorem Rp.eq_str {v : V} {x : Str} (h : Rp K C H v (.str x)) : v = .str x := h.flat rfl
theorem Rp.eq_non {v : V} (h : Rp K C H v .none) : v = .non := h.flat rfl
theorem RpAll.one {vs : List V} {d : PyData} (h : RpAll K C H vs [d]) : ∃ v, vs = [v] ∧ Rp K C H v d := by
  cases h with
  | cons h t =>
    cases t
    exact ⟨_, rfl, h⟩
theorem RpAll.two {vs : List V} {d e : PyData} (h : RpAll K C H vs [d, e]) : ∃ v w, vs = [v, w] ∧ Rp K C H v d ∧ Rp K C H w e := by
  cases h with
  | cons h t =>
    obtain ⟨w, rfl, h2⟩ := t.one
    exact ⟨_, _, rfl, h, h2⟩
theorem RpAll.three {vs : List V} {d e f : PyData} (h : RpAll K C H vs [d, e, f]) : ∃ v w x, vs = [v, w, x] ∧ Rp K C H v d ∧ Rp K C H w e ∧ Rp K C H x f := by
  cases h with
  | cons h t =>
    obtain ⟨w, x, rfl, h2, h3⟩ := t.two
    exact ⟨_, _, _, rfl, h, h2, h3⟩
end

/-! ### promises by functions of data -/
/-- called with data on which f tells r, hands back r; what stood stays -/
def spD (K : PySem.W.Frag) (cs : List Addr) (n : Nat) (f : List PyData → Option PyData) : Sp := fun vs H Q _ => ∃ (C : Addr → Prop) (I : Hp → Prop) (ds : List PyData) (r : PyData),
  vs.length = n ∧ Wd cs C I ∧ I H ∧ RpAll K C H vs ds ∧ f ds = some r ∧ ∀ v H', Xt C I H H' → Rp K C H' v r → Q v H'
section
variable {K : PySem.W.Frag} {cs : List Addr} {C : Addr → Prop} {I : Hp → Prop} {H : Hp} {vs : List V} {ds : List PyData} {r : PyData} {n : Nat} {f : List PyData → Option PyData} {Q : VK} {E : XK}
theorem spD_use (W : Wd cs C I) (i : I H) (hd : RpAll K C H vs ds) (hf : f ds = some r) (hn : vs.length = n := by rfl) (k : ∀ v H', Xt C I H H' → Rp K C H' v r → Q v H') : spD K cs n f vs H Q E :=
  ⟨C, I, ds, r, hn, W, i, hd, hf, k⟩
end

/-! ### defs as they are called -/
/-- the def x of the top: it keeps the promise sp at most at level k -/
structure Def (P : Program) (w : World) (K : PySem.W.Frag) (mg : Str → Option Value) (base : Heap) (CX : CXT) (x : Str) (k : Nat) (ps : List Str) (sp : Sp) : Prop where
  ok : ∃ fd, FnOk P w K mg base CX k (He.ga K x) fd ps sp ∧ Binds K fd ps []
  kp : PySem.W.keepIn K (.ref (He.ga K x)) = true
  gm : mg x = some (.ref (He.ga K x))
section
variable {P : Program} {w : World} {K : PySem.W.Frag} {mg : Str → Option Value} {base : Heap}
theorem Def.mk' {CX : CXT} {x : Str} {st : Stmt} {fd : FuncData} {N ps : List Str} {k : Nat} {sp : Sp} (F : FunD K x x (defArgs st) (defBody st) (defScope st) [] [] (He.ga K x) fd) (gm : mg x = some (.ref (He.ga K x))) (S : FnScope N ps (defScope st))
    (hb : ∀ (kV doc pm : Value) (an : Option Addr) (cdv ct : Value) (us : List Value), us.length = ps.length → bindArgs (PySem.W.fnOf x x (defArgs st) (defBody st) (defScope st) .none kV doc pm an cdv ct) ⟨us, []⟩ = pure (ps.zip us))
    (len : ∀ vs H Q E, sp vs H Q E → vs.length = ps.length)
    (hbody : ∀ (cdv : Value) (A : Around) (outer : List Env) (s : Shared) (H : Hp) (vs : List V) (Q : VK) (E : XK), Room k (A.deeper (envOfC x (defScope st) s.heap.objs.size (He.ga K x) cdv)) → sp vs H Q E →
      ∃ t, PSs (cxOf CX P w K mg base N x (defScope st) (He.ga K x) cdv A outer s H E) (defBody st) t ∧ t { nx := fun _ H' => Q .non H', rt := Q } (start N vs) H) : Def P w K mg base CX x (k + 1) ps sp :=
  ⟨⟨fd, F.ok S len hbody, F.bindsN hb⟩, F.kp, gm⟩
theorem Def.imp {CX : CXT} {x : Str} {k : Nat} {ps : List Str} {sp sp' : Sp} (D : Def P w K mg base CX x k ps sp) (h : ∀ vs H Q E, sp' vs H Q E → sp vs H Q E) : Def P w K mg base CX x k ps sp' := by
  obtain ⟨⟨fd, F, b⟩, kp, gm⟩ := D
  exact ⟨⟨fd, F.imp h, b⟩, kp, gm⟩
theorem Def.mono {CX : CXT} {x : Str} {j k : Nat} {ps : List Str} {sp : Sp} (D : Def P w K mg base CX x j ps sp) (h : j ≤ k) : Def P w K mg base CX x k ps sp := by
  obtain ⟨⟨fd, F, b⟩, kp, gm⟩ := D
  exact ⟨⟨fd, F.mono h, b⟩, kp, gm⟩
end
section
variable {X : Cx}
/-- f(e, ..), no exception leaves it -/
theorem pe_cal {x : Str} {k : Nat} {ps : List Str} {sp : Sp} {e : Expr} {es : List Expr} {t : TA} {p pos : Pos} (D : Def X.prog X.w X.K X.mg X.base CX0 x k ps sp) (hr : Room k X.A) (hg : Gl X x) (ha : PA X (e :: es) t)
    (he : starEach (e :: es) X.env = (false, eval e X.env) :: starEach es X.env := by rfl) (hpl : (backTo pos (starEach es X.env)).any (·.1) = false := by rfl) (hd : (x == ("__debug__" : Str)) = false := by decide) :
    PE X (.Call (.Name x p) (e :: es) [] pos) (tCall sp [] E0 t) := by
  obtain ⟨⟨fd, F, b⟩, kp, gm⟩ := D
  exact pe_call F hr hg gm kp b .nil pass0 ha (hdb := hd) (he := he) (hpl := hpl)
theorem pe_cal0 {x : Str} {k : Nat} {ps : List Str} {sp : Sp} {p pos : Pos} (D : Def X.prog X.w X.K X.mg X.base CX0 x k ps sp) (hr : Room k X.A) (hg : Gl X x) (hd : (x == ("__debug__" : Str)) = false := by decide) :
    PE X (.Call (.Name x p) [] [] pos) (tCall sp [] E0 tNil) := by
  obtain ⟨⟨fd, F, b⟩, kp, gm⟩ := D
  exact pe_call0 F hr hg gm kp b .nil pass0 (hdb := hd)
theorem pe_gint {x : Str} {i : Int} {pos : Pos} (hg : Gl X x) (hm : ∃ t, X.mg x = some (.int i t)) (hd : (x == ("__debug__" : Str)) = false := by decide) : PE X (.Name x pos) (tC (.int i)) := by
  obtain ⟨t, h⟩ := hm
  exact pe_glob hg h ⟨_, rfl⟩ hd
theorem pe_gstr {x z : Str} {pos : Pos} (hg : Gl X x) (hm : ∃ t, X.mg x = some (.str z t)) (hd : (x == ("__debug__" : Str)) = false := by decide) : PE X (.Name x pos) (tC (.str z)) := by
  obtain ⟨t, h⟩ := hm
  exact pe_glob hg h ⟨_, rfl⟩ hd
theorem pe_gref {x : Str} {a : Addr} {pos : Pos} (hg : Gl X x) (hm : X.mg x = some (.ref a)) (hd : (x == ("__debug__" : Str)) = false := by decide) : PE X (.Name x pos) (tC (.ref a)) := pe_glob hg hm rfl hd
end
end Z
namespace Z
open PySem PySem.Spec PyProof.Rows L2 GxR
/-! ### operators of several kinds of values at once -/
section
variable {X : Cx}
def rAddI : R2 := rI0 fun i j => .int (i + j)
def rSubI : R2 := rI0 fun i j => .int (i - j)
def rAddS : R2 := fun x y H Q => ∃ i j, x = .str i ∧ y = .str j ∧ i.length + j.length ≤ sizeLine ∧ Q (.str (i ++ j)) H
def rAddL : R2 := rCat
/-- + of ints, of texts, of lists, of tuples -/
def rAddG (K : PySem.W.Frag) : R2 := fun x y H Q => rAddI x y H Q ∨ rAddS x y H Q ∨ rCat x y H Q ∨ rCatT K x y H Q
theorem op_addG : OpR X (binaryOp .Add) (rAddG X.K) := OpR.or op_add (OpR.or op_add_str (OpR.or op_cat op_catT))
def rMulI : R2 := rI CMul fun i j => .int (i * j)
def rModI : R2 := rI (fun _ j => 0 < j) fun i j => .int (i % j)
def rDivI : R2 := rI CDiv fun i j => .int (i / j)
def rPowI : R2 := rI CPow fun i j => .int (i ^ j.toNat)
theorem op_subG : OpR X (binaryOp .Sub) rSubI := op_sub
theorem op_mulG : OpR X (binaryOp .Mult) rMulI := op_mul
theorem op_modG : OpR X (binaryOp .Mod) rModI := op_mod
theorem op_divG : OpR X (binaryOp .FloorDiv) rDivI := op_fdiv
theorem op_powG : OpR X (binaryOp .Pow) rPowI := op_pow
/-- == of scalars; of data -/
def rEqG (K : PySem.W.Frag) : R2 := fun x y H Q => rEq x y H Q ∨ rEqD K x y H Q
def rNeG (K : PySem.W.Frag) : R2 := fun x y H Q => rNe x y H Q ∨ rNeD K x y H Q
theorem op_eqG (hu : X.A.units + 64 < cLine) : OpR X (compareOp .Eq) (rEqG X.K) := OpR.or op_eq (op_eqD hu)
theorem op_neG (hu : X.A.units + 64 < cLine) : OpR X (compareOp .NotEq) (rNeG X.K) := OpR.or op_ne (op_neD hu)
/-! ### < of tuples of flat values -/
def ltV : V → V → Bool
  | .int a, .int b => decide (a < b)
  | .str a, .str b => decide (a.cps.toList < b.cps.toList)
  | .bl a, .bl b => !a && b
  | _, _ => false
/-- may be compared by < -/
def ltOk : V → V → Bool
  | .int _, .int _ => true
  | .str _, .str _ => true
  | _, _ => false
def lexV : List V → List V → Bool
  | [], [] => false
  | [], _ :: _ => true
  | _ :: _, [] => false
  | x :: xs, y :: ys => if eqV x y = true then lexV xs ys else ltV x y
/-- where the first difference lies the two may be compared -/
def lexOk : List V → List V → Bool
  | x :: xs, y :: ys => if eqV x y = true then lexOk xs ys else ltOk x y
  | _, _ => true
theorem rcLt_V {A : Around} {s : Shared} {x y : V} {u v : Value} (rx : RelV x u) (ry : RelV y v) (h : ltOk x y = true) : SeqAt.RcLt A s u v (ltV x y) := by
  intro prog w E Q q
  cases x with
  | int a =>
    cases y with
    | int b =>
      obtain ⟨t, rfl⟩ := rx
      obtain ⟨t', rfl⟩ := ry
      exact HT.rcLt_int A s a t b t' prog w E Q q
    | _ => cases h
  | str a =>
    cases y with
    | str b =>
      obtain ⟨t, rfl⟩ := rx
      obtain ⟨t', rfl⟩ := ry
      exact (PyProof.Rows.lt_str q : wpAny (model prog w) A (compareOp .Lt (.str a t) (.str b t')) Q E s)
    | _ => cases h
  | _ => cases h
end
end Z
namespace Z
open PySem PySem.SeqAt
open PySem.AutoSeq1 (wpAny_loadPart')
open PySem.MeetsSeq PySem.MeetsSeq2 PySem.MeetsSeq3
/-- from place i on, k places left: q tells which pairs are equal, m what the first other one gives, z what the lengths give -/
def lexFrom (q m : Nat → Bool) (z : Bool) : Nat → Nat → Bool
  | _, 0 => z
  | i, k + 1 => if q i = true then lexFrom q m z (i + 1) k else m i
theorem lexFrom_s {q m : Nat → Bool} {z : Bool} {i k : Nat} : lexFrom q m z i (k + 1) = if q i = true then lexFrom q m z (i + 1) k else m i := rfl
theorem lexFrom_z {q m : Nat → Bool} {z : Bool} {i : Nat} : lexFrom q m z i 0 = z := rfl
/-- t < u of two tuples: only the first pair that is not equal is compared -/
theorem tupLt_meets (a c : Addr) (us ws : Array Value) (n n' : Nat) (e1 e2 : Option Addr) (z1 z2 : Array (Option Value)) (q m : Nat → Bool) :
    Meets (Builtin.«tuple.__lt__» ⟨[.ref a, .ref c], []⟩)
      (fun A R s => s.heap.get? a = some { cls := .type "tuple", dict := e1, data := .seq us n, slots := z1 } ∧ s.heap.get? c = some { cls := .type "tuple", dict := e2, data := .seq ws n', slots := z2 } ∧
        (∀ j (h1 : j < us.size) (h2 : j < ws.size), EqAt A.in1 s us[j] ws[j] (q j)) ∧
        (∀ j (h1 : j < us.size) (h2 : j < ws.size), (∀ k, k < j → q k = true) → q j = false → RcLt A.in1 s us[j] ws[j] (m j)) ∧
        R (.ok (.ret (.bool (lexFrom q m (decide (us.size < ws.size)) 0 (min us.size ws.size))))) s) :=
  .of_wp fun prog w A R s h => by
    obtain ⟨hp, g, d, tk, os⟩ := s
    obtain ⟨ha, hc, he, hm, h⟩ := h
    have f2 := AutoSeq1.sub_tuple_tuple
    have hz : (us.toList.zip ws.toList).length = min us.size ws.size := by simp
    wp_walk using wpAny_loadPart' ha, wpAny_loadPart' hc, wpAny_forIn_list _ (fun left b s' => b.1 = none ∧ s' = ⟨hp, g, d, tk, os⟩ ∧ ∃ i, left = (us.toList.zip ws.toList).drop i ∧ (∀ k, k < i → q k = true) ∧
      R (.ok (.ret (.bool (lexFrom q m (decide (us.size < ws.size)) i (min us.size ws.size - i))))) ⟨hp, g, d, tk, os⟩) _
    case turn =>
      rintro ⟨u, v⟩ left b s' ⟨hb, rfl, i, hl, hq, hR⟩
      have lt0 : i < (us.toList.zip ws.toList).length := by
        by_cases z : i < (us.toList.zip ws.toList).length
        · exact z
        · rw [List.drop_of_length_le (Nat.le_of_not_lt z)] at hl
          cases hl
      have lt1 : i < min us.size ws.size := hz ▸ lt0
      have l1 : i < us.size := by omega
      have l2 : i < ws.size := by omega
      rw [List.drop_eq_getElem_cons lt0] at hl
      injection hl with hv hr
      have eu : u = us[i] := by
        have := congrArg Prod.fst hv
        simpa using this
      have ev : v = ws[i] := by
        have := congrArg Prod.snd hv
        simpa using this
      subst eu ev
      rw [show min us.size ws.size - i = (min us.size ws.size - (i + 1)) + 1 by omega, lexFrom_s] at hR
      refine wpAny_bind (he i l1 l2 prog w _ _ ?_)
      cases hi : q i with
      | true =>
        rw [hi, if_pos rfl] at hR
        wp_walk
        exact ⟨rfl, rfl, i + 1, hr, fun k hk => by
          by_cases z : k = i
          · rw [z]
            exact hi
          · exact hq k (by omega), hR⟩
      | false =>
        rw [hi, if_neg Bool.false_ne_true] at hR
        have hmi := hm i l1 l2 hq hi prog w
        wp_walk using hmi
        exact ⟨_, rfl, by simpa using hR⟩
    case fin =>
      rintro ⟨b1, b2⟩ s' ⟨hb, rfl, i, hl, _, hR⟩
      simp only at hb
      subst hb
      have ge0 : min us.size ws.size ≤ i := by
        by_cases z : i < (us.toList.zip ws.toList).length
        · rw [List.drop_eq_getElem_cons z] at hl
          cases hl
        · rw [← hz]
          exact Nat.le_of_not_lt z
      rw [Nat.sub_eq_zero_of_le ge0, lexFrom_z] at hR
      wp_walk
      exact ⟨_, rfl, by simpa [Builtin.Tuple.tupleCompareSizes] using hR⟩
    case h =>
      exact ⟨rfl, rfl, 0, rfl, (fun k hk => absurd hk (Nat.not_lt_zero k)), by simpa using h⟩
theorem rcLt_tup {A : Around} {s : Shared} {a c : Addr} {us ws : Array Value} {q m : Nat → Bool} (ha : s.heap.IsTuple a us) (hc : s.heap.IsTuple c ws) (hu : A.units < cLine)
    (he : ∀ j (h1 : j < us.size) (h2 : j < ws.size), EqAt A.in1 s us[j] ws[j] (q j))
    (hm : ∀ j (h1 : j < us.size) (h2 : j < ws.size), (∀ k, k < j → q k = true) → q j = false → RcLt A.in1 s us[j] ws[j] (m j)) :
    RcLt A s (.ref a) (.ref c) (lexFrom q m (decide (us.size < ws.size)) 0 (min us.size ws.size)) := fun prog w E Q h => by
  obtain ⟨⟨k1, d1, t1, z1⟩, ho, hk, n, hd⟩ := id ha
  obtain ⟨⟨k2, d2, t2, z2⟩, ho2, hk2, n', hd2⟩ := id hc
  simp only at hk hd hk2 hd2
  subst hk hd hk2 hd2
  exact richCompare_meets_room (op := .Lt) ⟨_, ho, rfl⟩ ⟨_, ho2, rfl⟩ F.slot_tuple_lt F.entry_tuple_lt (F.args_tuple_lt_2 _ _) (tupLt_meets a c us ws n n' d1 d2 z1 z2 q m) ⟨ho, ho2, he, hm, ⟨(fun x => nomatch x), h⟩⟩ hu
end Z
namespace Z
open PySem PySem.Spec PyProof.Rows L2 GxR
section
variable {X : Cx}
/-- the two tuples' first difference, by values -/
theorem lexFrom_eq : ∀ (n i : Nat) (xs ys : List V) (q m : Nat → Bool) (z : Bool), (∀ j x y, xs[j]? = some x → ys[j]? = some y → q (i + j) = eqV x y ∧ m (i + j) = ltV x y) → n = min xs.length ys.length → z = decide (xs.length < ys.length) →
    lexFrom q m z i n = lexV xs ys
  | 0, i, xs, ys, q, m, z, _, hn, hz => by
    cases xs with
    | nil => cases ys with
      | nil => exact hz
      | cons y ys => subst hz; simp [lexFrom, lexV]
    | cons x xs => cases ys with
      | nil => subst hz; simp [lexFrom, lexV]
      | cons y ys => simp at hn
  | n + 1, i, xs, ys, q, m, z, h, hn, hz => by
    cases xs with
    | nil => simp at hn
    | cons x xs => cases ys with
      | nil => simp at hn
      | cons y ys =>
        obtain ⟨h1, h2⟩ := h 0 x y rfl rfl
        rw [lexFrom_s]
        rw [show i + 0 = i from rfl] at h1 h2
        rw [h1, h2]
        show _ = if eqV x y = true then lexV xs ys else ltV x y
        have ih := lexFrom_eq n (i + 1) xs ys q m z (fun j a b ha hb => by
          have e := h (j + 1) a b (by simpa using ha) (by simpa using hb)
          rw [show i + 1 + j = i + (j + 1) by omega]
          exact e) (by simp at hn; omega) (by simpa using hz)
        rw [ih]
theorem lexOk_at : ∀ (xs ys : List V) (j : Nat) (x y : V), lexOk xs ys = true → xs[j]? = some x → ys[j]? = some y → (∀ k a b, k < j → xs[k]? = some a → ys[k]? = some b → eqV a b = true) → eqV x y = false → ltOk x y = true
  | [], _, _, _, _, _, h, _, _, _ => by simp at h
  | _ :: _, [], _, _, _, _, _, h, _, _ => by simp at h
  | a :: xs, b :: ys, 0, x, y, ok, hx, hy, _, e => by
    have e1 : a = x := by simpa using hx
    have e2 : b = y := by simpa using hy
    subst e1 e2
    have ok2 : (if eqV a b = true then lexOk xs ys else ltOk a b) = true := ok
    rw [if_neg (by rw [e]; exact Bool.false_ne_true)] at ok2
    exact ok2
  | a :: xs, b :: ys, j + 1, x, y, ok, hx, hy, hk, e => by
    have ok2 : (if eqV a b = true then lexOk xs ys else ltOk a b) = true := ok
    rw [if_pos (hk 0 a b (Nat.succ_pos j) rfl rfl)] at ok2
    exact lexOk_at xs ys j x y ok2 (by simpa using hx) (by simpa using hy) (fun k a b hl ha hb => hk (k + 1) a b (by omega) (by simpa using ha) (by simpa using hb)) e
/-- t < u of tuples of flat values -/
def rLtF (K : PySem.W.Frag) : R2 := fun x y H Q => ∃ a b xs ys, x = .ref a ∧ y = .ref b ∧ SqT K H a xs ∧ SqT K H b ys ∧ xs.all flatV = true ∧ ys.all flatV = true ∧ lexOk xs ys = true ∧ Q (.bl (lexV xs ys)) H
theorem op_ltF (hu : X.A.units < cLine) : OpR X (compareOp .Lt) (rLtF X.K) := by
  intro pins s σ H x y v u Q I rx ry h
  obtain ⟨a, b, xs, ys, rfl, rfl, ha, hb, fx, fy, ok, q⟩ := h
  cases rx
  cases ry
  obtain ⟨its, r1, p1, _⟩ := I.tuple ha
  obtain ⟨its2, r2, p2, _⟩ := I.tuple hb
  have at1 : ∀ j (h : j < its.toArray.size), ∃ z, xs[j]? = some z ∧ RelV z its.toArray[j] ∧ flatV z = true := fun j h => by
    have hj : j < xs.length := by rw [r1.length]; simpa using h
    obtain ⟨w, e1, e2⟩ := r1.get (List.getElem?_eq_getElem hj)
    have hl : j < its.length := by simpa using h
    rw [List.getElem?_eq_getElem hl] at e1
    have e3 := Option.some.inj e1
    refine ⟨xs[j], List.getElem?_eq_getElem hj, ?_, List.all_eq_true.mp fx _ (List.getElem_mem hj)⟩
    have e4 : its.toArray[j] = its[j] := by simp
    rw [e4, e3]
    exact e2
  have at2 : ∀ j (h : j < its2.toArray.size), ∃ z, ys[j]? = some z ∧ RelV z its2.toArray[j] ∧ flatV z = true := fun j h => by
    have hj : j < ys.length := by rw [r2.length]; simpa using h
    obtain ⟨w, e1, e2⟩ := r2.get (List.getElem?_eq_getElem hj)
    have hl : j < its2.length := by simpa using h
    rw [List.getElem?_eq_getElem hl] at e1
    have e3 := Option.some.inj e1
    refine ⟨ys[j], List.getElem?_eq_getElem hj, ?_, List.all_eq_true.mp fy _ (List.getElem_mem hj)⟩
    have e4 : its2.toArray[j] = its2[j] := by simp
    rw [e4, e3]
    exact e2
  have core := rcLt_tup (A := X.A) (s := s) (q := fun j => eqV (xs.getD j .non) (ys.getD j .non)) (m := fun j => ltV (xs.getD j .non) (ys.getD j .non)) p1 p2 hu
    (fun j h1 h2 => by
      obtain ⟨z, e1, e2, e3⟩ := at1 j h1
      obtain ⟨z', f1, f2, f3⟩ := at2 j h2
      have g1 : xs.getD j .non = z := by rw [List.getD_eq_getElem?_getD, e1] <;> rfl
      have g2 : ys.getD j .non = z' := by rw [List.getD_eq_getElem?_getD, f1] <;> rfl
      rw [g1, g2]
      exact eqAt_V e2 f2 e3 f3)
    (fun j h1 h2 hk hq => by
      obtain ⟨z, e1, e2, e3⟩ := at1 j h1
      obtain ⟨z', f1, f2, f3⟩ := at2 j h2
      have g1 : xs.getD j .non = z := by rw [List.getD_eq_getElem?_getD, e1] <;> rfl
      have g2 : ys.getD j .non = z' := by rw [List.getD_eq_getElem?_getD, f1] <;> rfl
      rw [g1, g2] at hq ⊢
      refine rcLt_V e2 f2 (lexOk_at xs ys j z z' ok e1 f1 (fun k a b hl ha hb => ?_) hq)
      have := hk k hl
      rw [List.getD_eq_getElem?_getD, List.getD_eq_getElem?_getD, ha, hb] at this
      exact this)
  rw [lexFrom_eq _ 0 xs ys _ _ _ (fun j x y hx hy => by
    rw [Nat.zero_add]
    constructor
    · show eqV (xs.getD j .non) (ys.getD j .non) = _
      rw [List.getD_eq_getElem?_getD, List.getD_eq_getElem?_getD, hx, hy] <;> rfl
    · show ltV (xs.getD j .non) (ys.getD j .non) = _
      rw [List.getD_eq_getElem?_getD, List.getD_eq_getElem?_getD, hx, hy] <;> rfl) (by rw [r1.length, r2.length]; simp) (by rw [r1.length, r2.length]; simp)] at core
  exact core X.prog X.w X.xe _ ⟨.bl _, H, I, rfl, q⟩
/-- < of ints, of texts, of tuples -/
def rLtI : R2 := rI0 fun i j => .bl (decide (i < j))
def rLeI : R2 := rI0 fun i j => .bl (decide (i ≤ j))
def rGtI : R2 := rI0 fun i j => .bl (decide (j < i))
def rGeI : R2 := rI0 fun i j => .bl (decide (j ≤ i))
def rLtS : R2 := fun x y H Q => ∃ i j, x = .str i ∧ y = .str j ∧ Q (.bl (decide (i.cps.toList < j.cps.toList))) H
def rLeS : R2 := fun x y H Q => ∃ i j, x = .str i ∧ y = .str j ∧ Q (.bl (!decide (j.cps.toList < i.cps.toList))) H
def rLtG (K : PySem.W.Frag) : R2 := fun x y H Q => rLtI x y H Q ∨ rLtS x y H Q ∨ rLtF K x y H Q
def rLeG : R2 := fun x y H Q => rLeI x y H Q ∨ rLeS x y H Q
theorem op_ltG (hu : X.A.units < cLine) : OpR X (compareOp .Lt) (rLtG X.K) := OpR.or op_lt (OpR.or op_lt_str (op_ltF hu))
theorem op_leG : OpR X (compareOp .LtE) rLeG := OpR.or op_le op_le_str
theorem op_gtG : OpR X (compareOp .Gt) rGtI := op_gt
theorem op_geG : OpR X (compareOp .GtE) rGeI := op_ge
/-- is, is not: None; bools -/
def rIsNn : R2 := fun x y H Q => y = .non ∧ Q (.bl (decide (x = .non))) H
def rNotNn : R2 := fun x y H Q => y = .non ∧ Q (.bl (!decide (x = .non))) H
def rIsG : R2 := fun x y H Q => rIsNn x y H Q ∨ rIsB x y H Q
def rIsNotG : R2 := fun x y H Q => rNotNn x y H Q ∨ rNotB x y H Q
theorem op_isG : OpR X (compareOp .Is) rIsG := OpR.or op_isN op_isBl
theorem op_isnG : OpR X (compareOp .IsNot) rIsNotG := OpR.or op_notN op_notBl
/-- in, not in: flat things in lists and tuples; a sign in a text -/
def rInSg : R2 := fun x y H Q => ∃ (c : Nat) (z : Str), x = .str ⟨#[c]⟩ ∧ y = .str z ∧ Q (.bl (decide (c ∈ z.cps.toList))) H
def rNinSg : R2 := fun x y H Q => ∃ (c : Nat) (z : Str), x = .str ⟨#[c]⟩ ∧ y = .str z ∧ Q (.bl (!decide (c ∈ z.cps.toList))) H
def rInG (K : PySem.W.Frag) : R2 := fun x y H Q => rIn K false x y H Q ∨ rInSg x y H Q
def rNinG (K : PySem.W.Frag) : R2 := fun x y H Q => rIn K true x y H Q ∨ rNinSg x y H Q
theorem op_inG : OpR X (compareOp .In) (rInG X.K) := OpR.or op_in_seq op_in_sign
theorem op_ninG : OpR X (compareOp .NotIn) (rNinG X.K) := OpR.or op_notIn_seq op_notIn_sign
end
end Z
namespace Z
open PySem PySem.Spec PyProof.Rows L2 GxR
/-! ### built-ins -/
theorem bt_len : bootBuiltins "len" = some (.builtin "len") := by decide +kernel
theorem bt_isinstance : bootBuiltins "isinstance" = some (.builtin "isinstance") := by decide +kernel
theorem bt_repr : bootBuiltins "repr" = some (.builtin "repr") := by decide +kernel
theorem bt_min : bootBuiltins "min" = some (.builtin "min") := by decide +kernel
theorem bt_max : bootBuiltins "max" = some (.builtin "max") := by decide +kernel
theorem bt_all : bootBuiltins "all" = some (.builtin "all") := by decide +kernel
theorem bt_any : bootBuiltins "any" = some (.builtin "any") := by decide +kernel
theorem bt_sorted : bootBuiltins "sorted" = some (.builtin "sorted") := by decide +kernel
theorem bt_sum : bootBuiltins "sum" = some (.builtin "sum") := by decide +kernel
theorem bt_int : bootBuiltins "int" = some (.type "int") := by decide +kernel
theorem bt_str : bootBuiltins "str" = some (.type "str") := by decide +kernel
theorem bt_bool : bootBuiltins "bool" = some (.type "bool") := by decide +kernel
theorem bt_list : bootBuiltins "list" = some (.type "list") := by decide +kernel
theorem bt_tuple : bootBuiltins "tuple" = some (.type "tuple") := by decide +kernel
theorem bt_dict : bootBuiltins "dict" = some (.type "dict") := by decide +kernel
theorem bt_ValueError : bootBuiltins "ValueError" = some (.type "ValueError") := by decide +kernel
section
variable {X : Cx}
/-- isinstance(x, T), T a built-in type, x data -/
def isD : PyData → String → Bool
  | .bool _, "bool" => true
  | .bool _, "int" => true
  | .int _, "int" => true
  | .str _, "str" => true
  | .list _, "list" => true
  | .tuple _, "tuple" => true
  | _, _ => false
def okT : String → Bool
  | "bool" => true
  | "int" => true
  | "str" => true
  | "list" => true
  | "tuple" => true
  | _ => false
def tyD : PyData → String
  | .none => "NoneType"
  | .bool _ => "bool"
  | .int _ => "int"
  | .str _ => "str"
  | .list _ => "list"
  | .tuple _ => "tuple"
  | .dict _ => "dict"
theorem kit_all : (["NoneType", "bool", "int", "str", "list", "tuple"].all fun a => ["bool", "int", "str", "list", "tuple"].all fun b => decide (kitB a b = some (decide (a = b) || (decide (a = "bool") && decide (b = "int"))))) = true := by decide +kernel
theorem okT_mem {n : String} (h : okT n = true) : n ∈ ["bool", "int", "str", "list", "tuple"] := by
  unfold okT at h
  split at h <;> first | exact absurd h Bool.false_ne_true | simp
theorem tyX_of {K : PySem.W.Frag} {C : Addr → Prop} {H : Hp} {v : V} {d : PyData} (h : Rp K C H v d) : TyX K H v (.type (tyD d)) ∧ tyD d ∈ ["NoneType", "bool", "int", "str", "list", "tuple"] := by
  cases h with
  | non => exact ⟨.base .non, by simp [tyD]⟩
  | bl b => exact ⟨.base (.bl b), by simp [tyD]⟩
  | int i => exact ⟨.base (.int i), by simp [tyD]⟩
  | str x => exact ⟨.base (.str x), by simp [tyD]⟩
  | lst s _ =>
    exact ⟨.base (.lst s.2), by simp [tyD]⟩
  | tup s _ =>
    refine ⟨?_, by simp [tyD]⟩
    rcases s with ⟨_, h | ⟨o, h⟩⟩ | h
    · exact .base (.tup h)
    · exact .fTuple h
    · rcases h (fun _ => none) with (z | ⟨_, z⟩) | ⟨o, its, n, hk, hc, _⟩
      · cases z
      · cases z
      · exact .kTuple hk hc
theorem isD_eq {d : PyData} {n : String} (h : okT n = true) : (decide (tyD d = n) || (decide (tyD d = "bool") && decide (n = "int"))) = isD d n := by
  have m := okT_mem h
  simp only [List.mem_cons, List.not_mem_nil, or_false] at m
  rcases m with rfl | rfl | rfl | rfl | rfl <;> cases d <;> rfl
def rIsD (K : PySem.W.Frag) : List V → Hp → VK → Prop := fun xs H Q => ∃ (v : V) (n : String) (C : Addr → Prop) (d : PyData), xs = [v, .ty n] ∧ okT n = true ∧ Rp K C H v d ∧ Q (.bl (isD d n)) H
theorem call_isD : CallR X (.builtin "isinstance") (rIsD X.K) := by
  intro pins s σ H xs us Q I r h
  obtain ⟨v, n, C, d, rfl, ok, rp, q⟩ := h
  obtain ⟨ty, m⟩ := tyX_of rp
  refine call_isi pins s σ H _ us Q I r ⟨v, .ty n, _, _, isD d n, rfl, .ty n, ty, kit_ty ?_, q⟩
  have k := List.all_eq_true.mp (List.all_eq_true.mp kit_all _ m) _ (okT_mem ok)
  have k' := of_decide_eq_true k
  rw [k', isD_eq ok]
/-- repr of data -/
def rReprD (K : PySem.W.Frag) : List V → Hp → VK → Prop := fun xs H Q => ∃ (v : V) (d : PyData), xs = [v] ∧ flatD d = true ∧ v = valD d ∧ d.showable = true ∧ d.shown.length ≤ sizeLine ∧ Q (.str d.shown) H
theorem call_reprF : CallR X (.builtin "repr") (rReprD X.K) := by
  intro pins s σ H xs us Q I r h
  obtain ⟨v, d, rfl, f, rfl, sh, sz, q⟩ := h
  obtain ⟨u, rfl, r1⟩ := vals1 r
  cases d with
  | none =>
    cases r1
    exact PySem.P.repr_of_none ⟨.str _, H, I.tok _, ⟨_, rfl⟩, q⟩
  | bool b =>
    cases r1
    exact PySem.P.repr_of_bool ⟨.str _, H, I.tok _, ⟨_, rfl⟩, q⟩
  | int i =>
    obtain ⟨t, rfl⟩ := r1
    exact PySem.P.repr_of_int (by simpa [PyData.showable] using sh) ⟨.str _, H, I.tok _, ⟨_, rfl⟩, q⟩
  | str x =>
    obtain ⟨t, rfl⟩ := r1
    exact PySem.P.repr_of_str ⟨.str _, H, I.tok _, ⟨_, rfl⟩, q⟩ (by simpa [PyData.shown] using sz)
  | _ => cases f
def rLenG (K : PySem.W.Frag) : List V → Hp → VK → Prop := fun xs H Q => (∃ p ys, xs = [.ref p] ∧ (SqL K H p ys ∨ SqT K H p ys) ∧ Q (.int ys.length) H) ∨ (∃ z, xs = [.str z] ∧ z.length ≤ sizeLine ∧ Q (.int z.length) H)
theorem call_lenG : CallR X (.builtin "len") (rLenG X.K) := CallR.or call_len_seq call_len_str
def rIntG : List V → Hp → VK → Prop := fun xs H Q => ((∃ i, xs = [.int i] ∧ Q (.int i) H) ∨ ∃ k, xs = [.bl k] ∧ Q (.int (if k then 1 else 0)) H) ∨ (∃ a n, xs = [.str a] ∧ PySem.intText? a = some n ∧ a.length ≤ 640 ∧ Q (.int n) H)
theorem call_intG : CallR X (.type "int") rIntG := CallR.or call_int1 call_int_str
def rMin2 : List V → Hp → VK → Prop := fun xs H Q => ∃ i j, xs = [.int i, .int j] ∧ Q (.int (if j < i then j else i)) H
theorem call_minG (hc : X.calm = true := by rfl) : CallR X (.builtin "min") rMin2 := call_min2 hc
/-- s[i:j] of a list, a tuple, a text -/
def rSlG (K : PySem.W.Frag) : V → Option Int → Option Int → Hp → VK → Prop := fun x lo hi H Q => rSlL K x lo hi H Q ∨ rSlT K x lo hi H Q ∨ rSlS x lo hi H Q
theorem sl_G : SlR X (rSlG X.K) := SlR.or sl_list (SlR.or sl_tup sl_str)
/-- text.index(other), found -/
def rSIndex : V → List V → Hp → VK → Prop := fun x xs H Q => ∃ a b i rest, x = .str a ∧ xs = [.str b] ∧ Builtin.Str.occurrences a b 0 a.length 1 = i :: rest ∧ Q (.int (i : Nat)) H
end
/-! ### the signs a to z -/
def azC (c : Nat) : Bool := decide (97 ≤ c) && decide (c ≤ 122)
def azS (x : Str) : Bool := x.cps.toList.all azC
theorem lt_one (a b : Nat) : decide (([a] : List Nat) < [b]) = decide (a < b) := by
  by_cases h : a < b
  · rw [decide_eq_true h, decide_eq_true (List.cons_lt_cons_iff.mpr (Or.inl h))]
  · rw [decide_eq_false h]
    refine decide_eq_false fun z => ?_
    rcases List.cons_lt_cons_iff.mp z with z | ⟨_, z⟩
    · exact h z
    · exact absurd z (by simp)
end Z
namespace Z
open PySem PySem.Spec PyProof.Rows L2 GxR
/-! ### 'a' <= x <= 'z' within a generator expression -/
section
theorem elt_between {prog : Program} {w : World} {scope : Scope} {x : Str} {lo hi : Nat} {i j : Nat} {p1 p2 p3 p4 : Pos} (hk : scope.kind = .function) (hl : scope.names.lookup x = some .local) (hd : (x == ("__debug__" : Str)) = false := by decide) :
    EltP prog w scope x (.Compare (.Constant (.str ⟨#[lo]⟩) i p1) [.LtE, .LtE] [.Name x p2, .Constant (.str ⟨#[hi]⟩) j p3] p4) (fun c => decide (lo ≤ c) && decide (c ≤ hi)) := by
  intro cenv A' E' c t s₂ m₂ hs hn hm
  have q1 : (!decide (([c] : List Nat) < [lo])) = decide (lo ≤ c) := by
    rw [lt_one]
    by_cases h : lo ≤ c
    · rw [decide_eq_true h, decide_eq_false (Nat.not_lt.mpr h)] <;> rfl
    · rw [decide_eq_false h, decide_eq_true (Nat.lt_of_not_le h)] <;> rfl
  have q2 : (!decide (([hi] : List Nat) < [c])) = decide (c ≤ hi) := by
    rw [lt_one]
    by_cases h : c ≤ hi
    · rw [decide_eq_true h, decide_eq_false (Nat.not_lt.mpr h)] <;> rfl
    · rw [decide_eq_false h, decide_eq_true (Nat.lt_of_not_le h)] <;> rfl
  refine Compare_chain (Calls.Constant_str (chain_link ?_)) (by with_unfolding_all rfl)
  refine wpAny_Name (wpAny_loadName_local (by rw [hs]; exact hk) (show cenv.scope.names.lookup x = some .local by rw [hs]; exact hl) hn hm ?_) hd
  refine PySem.P.le_str (wpAny_truthy_bool ?_)
  show (if (!decide (([c] : List Nat) < [lo])) = true then _ else _)
  rw [q1]
  cases h1 : decide (lo ≤ c) with
  | false =>
    refine ite_ff ⟨?_, keeps_tok _ _⟩
    show Value.bool false = Value.bool (decide (lo ≤ c) && decide (c ≤ hi))
    rw [h1]
    rfl
  | true =>
    refine ite_tt (chain_last (Calls.Constant_str (PySem.P.le_str ⟨?_, keeps_tok _ _⟩)))
    show Value.bool (!decide (([hi] : List Nat) < [c])) = Value.bool (decide (lo ≤ c) && decide (c ≤ hi))
    rw [q2, h1]
    rfl
end
/-! ### readings, one construct at a time -/
section
variable {K : PySem.W.Frag} {σ : L2.St} {H : Hp} {Q : VK} {QB : Bool → Hp → Prop} {QA : List V → Hp → Prop} {D : Ends} {ta tb : TE} {t u : TT} {tA tr : TA} {ts us : TS} {r : R2} {v x y : V} {i : Nat} {sp : Sp} {E : XK}
theorem r_var (h : σ[i]? = some (some v)) (k : Q v H) : tVar i σ H Q := ⟨v, h, k⟩
theorem r_c (k : Q v H) : tC v σ H Q := k
theorem r_op (k : ta σ H fun x H1 => tb σ H1 fun y H2 => r x y H2 Q) : tOp r ta tb σ H Q := k
theorem r_neg {n : Int} (k : Q (.int (-n)) H) : (rU fun i => .int (-i)) (.int n) H Q := ⟨n, rfl, k⟩
theorem r_un {f : V → Hp → VK → Prop} (k : ta σ H fun x H1 => f x H1 Q) : tUn f ta σ H Q := k
theorem r_addI {m n : Int} (k : Q (.int (m + n)) H) : rAddG K (.int m) (.int n) H Q := Or.inl ⟨m, n, rfl, rfl, k⟩
theorem r_addS {m n : Str} (h : m.length + n.length ≤ sizeLine) (k : Q (.str (m ++ n)) H) : rAddG K (.str m) (.str n) H Q := Or.inr (Or.inl ⟨m, n, rfl, rfl, h, k⟩)
theorem r_addL {a b : Addr} {xs zs : List V} (ha : H a = some (.lst xs)) (hb : H b = some (.lst zs)) (h : xs.length + zs.length ≤ sizeLine) (k : ∀ p, H p = none → Q (.ref p) (upd H p (.lst (xs ++ zs)))) : rAddG K (.ref a) (.ref b) H Q :=
  Or.inr (Or.inr (Or.inl ⟨a, b, xs, zs, rfl, rfl, ha, hb, h, k⟩))
theorem r_sub {m n : Int} (k : Q (.int (m - n)) H) : rSubI (.int m) (.int n) H Q := ⟨m, n, rfl, rfl, k⟩
theorem r_mul {m n : Int} (h : CMul m n) (k : Q (.int (m * n)) H) : rMulI (.int m) (.int n) H Q := ⟨m, n, rfl, rfl, h, k⟩
theorem r_mod {m n : Int} (h : 0 < n) (k : Q (.int (m % n)) H) : rModI (.int m) (.int n) H Q := ⟨m, n, rfl, rfl, h, k⟩
theorem r_div {m n : Int} (h : CDiv m n) (k : Q (.int (m / n)) H) : rDivI (.int m) (.int n) H Q := ⟨m, n, rfl, rfl, h, k⟩
theorem r_pow {m n : Int} (h : CPow m n) (k : Q (.int (m ^ n.toNat)) H) : rPowI (.int m) (.int n) H Q := ⟨m, n, rfl, rfl, h, k⟩
theorem r_eqS (h : scal x y = true) (k : Q (.bl (decide (x = y))) H) : rEqG K x y H Q := Or.inl ⟨h, k⟩
theorem r_neS (h : scal x y = true) (k : Q (.bl (!decide (x = y))) H) : rNeG K x y H Q := Or.inl ⟨h, k⟩
theorem r_eqI {m n : Int} (k : Q (.bl (decide (m = n))) H) : rEqG K (.int m) (.int n) H Q := Or.inl ⟨rfl, by
  rw [dec_int]
  exact cast (by rw [show (m == n) = decide (m = n) from rfl]) k⟩
theorem r_neI {m n : Int} (k : Q (.bl (!decide (m = n))) H) : rNeG K (.int m) (.int n) H Q := Or.inl ⟨rfl, by
  rw [dec_int]
  exact cast (by rw [show (m == n) = decide (m = n) from rfl]) k⟩
theorem r_eqT {m n : Str} (k : Q (.bl (decide (m = n))) H) : rEqG K (.str m) (.str n) H Q := Or.inl ⟨rfl, by
  have e : decide (V.str m = V.str n) = decide (m = n) := by
    by_cases h : m = n
    · rw [decide_eq_true h, decide_eq_true (congrArg V.str h)]
    · rw [decide_eq_false h, decide_eq_false fun z => h (V.str.inj z)]
  rw [e]
  exact k⟩
theorem r_neT {m n : Str} (k : Q (.bl (!decide (m = n))) H) : rNeG K (.str m) (.str n) H Q := Or.inl ⟨rfl, by
  have e : decide (V.str m = V.str n) = decide (m = n) := by
    by_cases h : m = n
    · rw [decide_eq_true h, decide_eq_true (congrArg V.str h)]
    · rw [decide_eq_false h, decide_eq_false fun z => h (V.str.inj z)]
  rw [e]
  exact k⟩
theorem r_neB {m n : Bool} (k : Q (.bl (m != n)) H) : rNeG K (.bl m) (.bl n) H Q := Or.inl ⟨rfl, by
  have e : (!decide (V.bl m = V.bl n)) = (m != n) := by cases m <;> cases n <;> rfl
  rw [e]
  exact k⟩
theorem r_eqD {d e : PyData} (h1 : Dp K H x d) (h2 : Dp K H y e) (h3 : SeqAt.shaped d = true) (h4 : SeqAt.shaped e = true) (k : Q (.bl (PyData.eqv d e)) H) : rEqG K x y H Q := Or.inr ⟨d, e, h1, h2, h3, h4, k⟩
theorem r_neD {d e : PyData} (h1 : Dp K H x d) (h2 : Dp K H y e) (h3 : SeqAt.shaped d = true) (h4 : SeqAt.shaped e = true) (k : Q (.bl (!PyData.eqv d e)) H) : rNeG K x y H Q := Or.inr ⟨d, e, h1, h2, h3, h4, k⟩
theorem r_ltI {m n : Int} (k : Q (.bl (decide (m < n))) H) : rLtG K (.int m) (.int n) H Q := Or.inl ⟨m, n, rfl, rfl, k⟩
theorem r_ltS {m n : Str} (k : Q (.bl (decide (m.cps.toList < n.cps.toList))) H) : rLtG K (.str m) (.str n) H Q := Or.inr (Or.inl ⟨m, n, rfl, rfl, k⟩)
theorem r_ltF {a b : Addr} {xs ys : List V} (h1 : SqT K H a xs) (h2 : SqT K H b ys) (h3 : xs.all flatV = true) (h4 : ys.all flatV = true) (h5 : lexOk xs ys = true) (k : Q (.bl (lexV xs ys)) H) : rLtG K (.ref a) (.ref b) H Q :=
  Or.inr (Or.inr ⟨a, b, xs, ys, rfl, rfl, h1, h2, h3, h4, h5, k⟩)
theorem r_leI {m n : Int} (k : Q (.bl (decide (m ≤ n))) H) : rLeG (.int m) (.int n) H Q := Or.inl ⟨m, n, rfl, rfl, k⟩
theorem r_leS {m n : Str} (k : Q (.bl (!decide (n.cps.toList < m.cps.toList))) H) : rLeG (.str m) (.str n) H Q := Or.inr ⟨m, n, rfl, rfl, k⟩
theorem r_gtI {m n : Int} (k : Q (.bl (decide (n < m))) H) : rGtI (.int m) (.int n) H Q := ⟨m, n, rfl, rfl, k⟩
theorem r_geI {m n : Int} (k : Q (.bl (decide (n ≤ m))) H) : rGeI (.int m) (.int n) H Q := ⟨m, n, rfl, rfl, k⟩
theorem r_isN (k : Q (.bl (decide (x = .non))) H) : rIsG x .non H Q := Or.inl ⟨rfl, k⟩
theorem r_isB {m n : Bool} (k : Q (.bl (decide (m = n))) H) : rIsG (.bl m) (.bl n) H Q := Or.inr ⟨m, n, rfl, rfl, k⟩
theorem r_isnN (k : Q (.bl (!decide (x = .non))) H) : rIsNotG x .non H Q := Or.inl ⟨rfl, k⟩
theorem r_isnB {m n : Bool} (k : Q (.bl (!decide (m = n))) H) : rIsNotG (.bl m) (.bl n) H Q := Or.inr ⟨m, n, rfl, rfl, k⟩
theorem r_tTest (k : ta σ H fun x H1 => ∃ b, x = .bl b ∧ QB b H1) : tTest ta σ H QB := k
theorem r_tB (k : ta σ H fun x H1 => ∃ b, x = .bl b ∧ QB b H1) : tB ta σ H QB := k
theorem r_bl {b : Bool} (k : QB b H) : ∃ c, V.bl b = .bl c ∧ QB c H := ⟨b, rfl, k⟩
theorem r_blp {b : Bool} {P : Bool → Prop} (k : P b) : ∃ c, V.bl b = .bl c ∧ P c := ⟨b, rfl, k⟩
theorem r_tNot (k : t σ H fun c H1 => QB (!c) H1) : tNot t σ H QB := k
theorem r_tAnd (k : t σ H fun c H1 => if c = true then u σ H1 QB else QB false H1) : tAnd t u σ H QB := k
theorem r_tOr (k : t σ H fun c H1 => if c = true then QB true H1 else u σ H1 QB) : tOr t u σ H QB := k
theorem r_andV (k : ta σ H fun x H1 => ∃ c, x = .bl c ∧ if c = true then tb σ H1 Q else Q (.bl false) H1) : tAndV ta tb σ H Q := k
theorem r_orV (k : ta σ H fun x H1 => ∃ c, x = .bl c ∧ if c = true then Q (.bl true) H1 else tb σ H1 Q) : tOrV ta tb σ H Q := k
theorem r_notV (k : ta σ H fun x H1 => ∃ c, x = .bl c ∧ Q (.bl (!c)) H1) : tNotV ta σ H Q := k
theorem r_ifx (k : t σ H fun c H1 => if c = true then ta σ H1 Q else tb σ H1 Q) : tIf t ta tb σ H Q := k
theorem r_chain {r' : R2} {tc : TE} (k : ta σ H fun x H1 => tb σ H1 fun y H2 => r x y H2 fun z H3 => ∃ k, z = .bl k ∧ (if k = true then tc σ H3 fun w' H4 => r' y w' H4 Q else Q (.bl false) H3)) : tChain r r' ta tb tc σ H Q := k
theorem r_if {c : Bool} {A B : Prop} (h1 : c = true → A) (h2 : c = false → B) : if c = true then A else B := by
  cases c with
  | true => exact h1 rfl
  | false => exact h2 rfl
theorem r_seq (k : ts { D with nx := us D } σ H) : tSeq ts us D σ H := k
theorem r_next (k : D.nx σ H) : tNext D σ H := k
theorem r_asg (k : ta σ H fun x H1 => D.nx (σ.set i (some x)) H1) : tAsg ta (gName i) D σ H := k
theorem r_asgG {g : TG} (k : ta σ H fun x H1 => g x σ H1 D.nx) : tAsg ta g D σ H := k
theorem r_ret (k : ta σ H fun x H1 => D.rt x H1) : tRet ta D σ H := k
theorem r_drop (k : ta σ H fun _ H1 => D.nx σ H1) : tDrop ta D σ H := k
theorem r_ifS (k : t σ H fun b H1 => if b = true then ts D σ H1 else us D σ H1) : tIfS t ts us D σ H := k
theorem r_nil (k : QA [] H) : tNil σ H QA := k
theorem r_cons (k : ta σ H fun x H1 => tr σ H1 fun xs H2 => QA (x :: xs) H2) : tCons ta tr σ H QA := k
theorem r_cal (k : tA σ H fun vs H1 => sp vs H1 Q E) : tCall sp [] E tA σ H Q := by
  have e : (fun (vs : List V) (H1 : Hp) => sp (vs ++ []) H1 Q E) = fun vs H1 => sp vs H1 Q E := by
    funext vs H1
    rw [List.append_nil]
  show tA σ H fun vs H1 => sp (vs ++ []) H1 Q E
  rw [e]
  exact k
theorem r_cb {f : List V → Hp → VK → Prop} (k : tA σ H fun vs H1 => f vs H1 Q) : tCB f tA σ H Q := k
def NewT (xs : List V) (H : Hp) (Q : VK) : Prop := xs.length ≤ sizeLine ∧ ∀ p, H p = none → Q (.ref p) (upd H p (.tup xs))
def NewL (xs : List V) (H : Hp) (Q : VK) : Prop := xs.length ≤ sizeLine ∧ ∀ p, H p = none → Q (.ref p) (upd H p (.lst xs))
theorem r_tup (k : tA σ H fun xs H1 => NewT xs H1 Q) : tTup tA σ H Q := k
theorem r_lst (k : tA σ H fun xs H1 => NewL xs H1 Q) : tLst tA σ H Q := k
theorem r_lenL {p : Addr} {xs : List V} (h : SqL K H p xs) (k : Q (.int xs.length) H) : rLenG K [.ref p] H Q := Or.inl ⟨p, xs, rfl, Or.inl h, k⟩
theorem r_lenT {p : Addr} {xs : List V} (h : SqT K H p xs) (k : Q (.int xs.length) H) : rLenG K [.ref p] H Q := Or.inl ⟨p, xs, rfl, Or.inr h, k⟩
theorem r_lenS {z : Str} (h : z.length ≤ sizeLine) (k : Q (.int z.length) H) : rLenG K [.str z] H Q := Or.inr ⟨z, rfl, h, k⟩
theorem r_intI {n : Int} (k : Q (.int n) H) : rIntG [.int n] H Q := Or.inl (Or.inl ⟨n, rfl, k⟩)
theorem r_intB {b : Bool} (k : Q (.int (if b then 1 else 0)) H) : rIntG [.bl b] H Q := Or.inl (Or.inr ⟨b, rfl, k⟩)
theorem r_isD {n : String} {C : Addr → Prop} {d : PyData} (h : Rp K C H v d) (k : Q (.bl (isD d n)) H) (ok : okT n = true := by rfl) : rIsD K [v, .ty n] H Q := ⟨v, n, C, d, rfl, ok, h, k⟩
theorem r_min {m n : Int} (k : Q (.int (if n < m then n else m)) H) : rMin2 [.int m, .int n] H Q := ⟨m, n, rfl, k⟩
theorem r_ixL {p : Addr} {xs : List V} {n : Int} (h : SqL K H p xs) (ha : atI xs n = some v) (k : Q v H) : rIx K (.ref p) (.int n) H Q := Or.inl ⟨p, xs, n, v, rfl, rfl, h, ha, k⟩
theorem r_ixT {p : Addr} {xs : List V} {n : Int} (h : SqT K H p xs) (ha : atI xs n = some v) (k : Q v H) : rIx K (.ref p) (.int n) H Q := Or.inr (Or.inl ⟨p, xs, n, v, rfl, rfl, h, ha, k⟩)
theorem r_ixS {z : Str} {n : Int} {c : Nat} (h : z.length ≤ sizeLine) (ha : atI z.cps.toList n = some c) (k : Q (.str ⟨#[c]⟩) H) : rIx K (.str z) (.int n) H Q := Or.inr (Or.inr ⟨z, n, c, rfl, rfl, h, ha, k⟩)
theorem small_of {n : Nat} (h : n ≤ 100000) : n ≤ sizeLine := Nat.le_trans h (by decide)
end
end Z
namespace Z
open PySem PySem.Spec PyProof.Rows L2 GxR
/-! ### the same within a comprehension's block, whose K is the def's -/
theorem opK {X : Cx} {K : PySem.W.Frag} {f : Value → Value → Sem Value} {r : PySem.W.Frag → R2} (h : X.K = K) (o : OpR X f (r X.K)) : OpR X f (r K) := by
  rw [← h]
  exact o
theorem callK {X : Cx} {K : PySem.W.Frag} {f : Value} {r : PySem.W.Frag → List V → Hp → VK → Prop} (h : X.K = K) (o : CallR X f (r X.K)) : CallR X f (r K) := by
  rw [← h]
  exact o
theorem ixK {X : Cx} {K : PySem.W.Frag} {r : PySem.W.Frag → R2} (h : X.K = K) (o : IxR X (r X.K)) : IxR X (r K) := by
  rw [← h]
  exact o
theorem slK {X : Cx} {K : PySem.W.Frag} {r : PySem.W.Frag → V → Option Int → Option Int → Hp → VK → Prop} (h : X.K = K) (o : SlR X (r X.K)) : SlR X (r K) := by
  rw [← h]
  exact o
end Z
namespace Z
open PySem PySem.Spec PyProof.Rows L2 GxR
section
variable {K : PySem.W.Frag} {cs : List Addr} {C : Addr → Prop} {I : Hp → Prop} {H : Hp} {vs : List V} {ds : List PyData} {n : Nat} {f : List PyData → Option PyData} {Q : VK} {E : XK}
theorem spD_len {vs : List V} {H : Hp} {Q : VK} {E : XK} (h : spD K cs n f vs H Q E) : vs.length = n := let ⟨_, _, _, _, e, _⟩ := h; e
theorem all1 (h : RpAll K C H vs ds) (e : vs.length = 1) : ∃ v d, vs = [v] ∧ ds = [d] ∧ Rp K C H v d := by
  cases h with
  | nil => cases e
  | cons h t => cases t with
    | nil => exact ⟨_, _, rfl, rfl, h⟩
    | cons _ _ => cases e
theorem all2 (h : RpAll K C H vs ds) (e : vs.length = 2) : ∃ v1 v2 d1 d2, vs = [v1, v2] ∧ ds = [d1, d2] ∧ Rp K C H v1 d1 ∧ Rp K C H v2 d2 := by
  cases h with
  | nil => cases e
  | cons h t =>
    obtain ⟨v, d, rfl, rfl, h2⟩ := all1 t (by simpa using e)
    exact ⟨_, _, _, _, rfl, rfl, h, h2⟩
theorem all3 (h : RpAll K C H vs ds) (e : vs.length = 3) : ∃ v1 v2 v3 d1 d2 d3, vs = [v1, v2, v3] ∧ ds = [d1, d2, d3] ∧ Rp K C H v1 d1 ∧ Rp K C H v2 d2 ∧ Rp K C H v3 d3 := by
  cases h with
  | nil => cases e
  | cons h t =>
    obtain ⟨v, w, d, e', rfl, rfl, h2, h3⟩ := all2 t (by simpa using e)
    exact ⟨_, _, _, _, _, _, rfl, rfl, h, h2, h3⟩
end
/-! ### values -/
def isInt : PyData → Bool
  | .int _ => true
  | _ => false
def isTxt : PyData → Bool
  | .str x => azS x
  | _ => false
def isVal : PyData → Bool
  | .none => true
  | .int _ => true
  | .str x => azS x
  | _ => false
def lenOk : PyData → Bool
  | .str x => decide (x.length ≤ sizeLine)
  | _ => true
def isBase : PyData → Bool
  | .none => true
  | .int i => decide (-9999 ≤ i) && decide (i ≤ 9999)
  | .str x => azS x && decide (x.length ≤ 6)
  | _ => false
def hasKind (d : PyData) (k : Str) : Bool := match d with
  | .none => true
  | _ => if k = "integer" then isInt d else isTxt d
def keyD : PyData → PyData
  | .none => .tuple [.int 0]
  | .int i => .tuple [.int 1, .int i]
  | d => .tuple [.int 2, d]
/-- a value that can be compared: None, an int, a text of valid signs -/
def cmpOk : PyData → Bool
  | .none => true
  | .int _ => true
  | .str x => PyData.canLay0 (.str x)
  | _ => false
/-- the order of values: nothing, ints, texts -/
def ltD : PyData → PyData → Bool
  | .none, .int _ => true
  | .none, .str _ => true
  | .int _, .str _ => true
  | .int a, .int b => decide (a < b)
  | .str a, .str b => decide (a.cps.toList < b.cps.toList)
  | _, _ => false
def eqD : PyData → PyData → Bool
  | .none, .none => true
  | .int a, .int b => decide (a = b)
  | .str a, .str b => decide (a = b)
  | _, _ => false
def cmpD (d e : PyData) : Int := if eqD d e = true then 0 else if ltD d e = true then -1 else 1
def f_is_integer : List PyData → Option PyData
  | [d] => some (.bool (isInt d))
  | _ => none
def f_is_letters : List PyData → Option PyData
  | [.str x] => some (.bool (azS x))
  | _ => none
def f_is_text : List PyData → Option PyData
  | [d] => some (.bool (isTxt d))
  | _ => none
def f_is_value : List PyData → Option PyData
  | [d] => some (.bool (isVal d))
  | _ => none
def f_is_base : List PyData → Option PyData
  | [d] => if lenOk d = true then some (.bool (isBase d)) else none
  | _ => none
def f_has_kind : List PyData → Option PyData
  | [d, .str k] => some (.bool (hasKind d k))
  | _ => none
def f_key_of : List PyData → Option PyData
  | [d] => if cmpOk d = true then some (keyD d) else none
  | _ => none
def f_compare : List PyData → Option PyData
  | [d, e] => if cmpOk d = true ∧ cmpOk e = true then some (.int (cmpD d e)) else none
  | _ => none
theorem shaped_key {d : PyData} (h : cmpOk d = true) : SeqAt.shaped (keyD d) = true := by
  cases d with
  | none => rfl
  | int i => rfl
  | str x =>
    have h' : PyData.canLay0 (.str x) = true := h
    simp [keyD, SeqAt.shaped, PyData.canLay0, PyData.canLayAll0, PyData.depth, PyData.depthAll] at h' ⊢
    exact h'
  | _ => cases h
theorem eqv_key {d e : PyData} (h : cmpOk d = true) (h' : cmpOk e = true) : PyData.eqv (keyD d) (keyD e) = eqD d e := by
  cases d <;> first | (cases h; done) | skip
  all_goals (cases e <;> first | (cases h'; done) | skip)
  all_goals simp [keyD, PyData.eqv, PyData.eqvAll, eqD]
  all_goals rfl
/-- what stands in a key -/
def keyV : PyData → List V
  | .none => [.int 0]
  | .int i => [.int 1, .int i]
  | d => [.int 2, valD d]
theorem keyV_flat {d : PyData} (h : cmpOk d = true) : (keyV d).all flatV = true := by
  cases d <;> first | (cases h; done) | rfl
theorem keyV_ok {d e : PyData} (h : cmpOk d = true) (h' : cmpOk e = true) : lexOk (keyV d) (keyV e) = true := by
  cases d <;> first | (cases h; done) | skip
  all_goals (cases e <;> first | (cases h'; done) | skip)
  all_goals simp [keyV, lexOk, eqV, ltOk, valD]
theorem keyV_lt {d e : PyData} (h : cmpOk d = true) (h' : cmpOk e = true) : lexV (keyV d) (keyV e) = ltD d e := by
  cases d <;> first | (cases h; done) | skip
  all_goals (cases e <;> first | (cases h'; done) | skip)
  all_goals simp [keyV, lexV, eqV, ltV, valD, ltD]
  · omega
  · intro z e
    rw [e] at z
    exact absurd z (Array.lt_irrefl _)
end Z
namespace Z
open PySem PySem.Spec PyProof.Rows L2 GxR
/-- a def whose code object is asked for (a generator expression stands in it) -/
theorem Def.mkG {P : Program} {w : World} {K : PySem.W.Frag} {mg : Str → Option Value} {base : Heap} {CX : CXT} {x : Str} {st : Stmt} {fd : FuncData} {N ps : List Str} {k : Nat} {sp : Sp} (F : FunD K x x (defArgs st) (defBody st) (defScope st) [] [] (He.ga K x) fd) (gm : mg x = some (.ref (He.ga K x))) (S : FnScope N ps (defScope st))
    (hb : ∀ (kV doc pm : Value) (an : Option Addr) (cdv ct : Value) (us : List Value), us.length = ps.length → bindArgs (PySem.W.fnOf x x (defArgs st) (defBody st) (defScope st) .none kV doc pm an cdv ct) ⟨us, []⟩ = pure (ps.zip us))
    (len : ∀ vs H Q E, sp vs H Q E → vs.length = ps.length)
    (hbody : ∀ (A : Around) (outer : List Env) (s : Shared) (H : Hp) (vs : List V) (Q : VK) (E : XK), Room k (A.deeper (envOfC x (defScope st) s.heap.objs.size (He.ga K x) (.ref (He.codeOf K (x, none))))) → sp vs H Q E →
      ∃ t, PSs (cxOf CX P w K mg base N x (defScope st) (He.ga K x) (.ref (He.codeOf K (x, none))) A outer s H E) (defBody st) t ∧ t { nx := fun _ H' => Q .non H', rt := Q } (start N vs) H) : Def P w K mg base CX x (k + 1) ps sp := by
  refine ⟨⟨fd, ?_, F.bindsN hb⟩, F.kp, gm⟩
  obtain ⟨oc, od, dV, kV, doc, pm, an, cdv, ct, osl, rfl, lk, hcd, hD, hK⟩ := F.ex
  obtain ⟨c, rfl⟩ := He.codeIn_ref hcd
  have e : He.codeOf K (x, none) = c := He.codeOf_eq (p := (x, none)) lk rfl
  rw [e] at hbody
  exact fn_of lk hcd S len hbody
end Z
namespace Z
open PySem PySem.Spec PyProof.Rows L2 GxR
/-- a generator expression's scope that captures nothing -/
def genSB (sc : Scope) (x : Str) : Bool := (match sc.kind with | .function => true | _ => false) && (!sc.isCoroutine) && (sc.names.all fun y => match y.2 with | .cell => false | .free => false | _ => true) &&
  decide (sc.names.lookup (".0" : Str) = some NameKind.local) && decide (sc.names.lookup x = some .local)
theorem genS_of {env : Env} {sc : Scope} {x : Str} (h : genSB sc x = true) : GenS env sc x := by
  unfold genSB at h
  simp only [Bool.and_eq_true, List.all_eq_true, decide_eq_true_eq] at h
  obtain ⟨⟨⟨⟨h1, h2⟩, h3⟩, h4⟩, h5⟩ := h
  refine ⟨?_, ?_, fun y hy e => ?_, h4, h5, fun y hy e => ?_⟩
  · cases q : sc.kind <;> rw [q] at h1 <;> first | rfl | cases h1
  · cases q : sc.isCoroutine <;> rw [q] at h2 <;> first | rfl | cases h2
  · have z := h3 y hy
    rw [e] at z
    cases z
  · have z := h3 y hy
    rw [e] at z
    cases z
/-- the length of lists that are written -/
theorem sz_lit {n : Nat} (h : Nat.ble n 1000 = true) : n ≤ sizeLine := small_of (Nat.le_trans (Nat.le_of_ble_eq_true h) (by decide))
end Z
namespace Z
open PySem PySem.Spec PyProof.Rows L2 GxR
theorem key_at {K : PySem.W.Frag} {C : Addr → Prop} {H : Hp} {v : V} {d : PyData} (l : cmpOk d = true) (h : Rp K C H v (keyD d)) : ∃ a, v = .ref a ∧ StT K C H a (keyV d) := by
  have one : ∀ {n : Int} {vs : List V}, RpAll K C H vs [.int n] → vs = [.int n] := fun h => by
    obtain ⟨w, rfl, hw⟩ := h.one
    rw [hw.eq_int]
  cases d with
  | none =>
    cases h with
    | tup s r => exact ⟨_, rfl, by rw [one r] at s; exact s⟩
  | int i =>
    cases h with
    | tup s r =>
      obtain ⟨w1, w2, rfl, h1, h2⟩ := r.two
      rw [h1.eq_int, h2.eq_int] at s
      exact ⟨_, rfl, s⟩
  | str x =>
    cases h with
    | tup s r =>
      obtain ⟨w1, w2, rfl, h1, h2⟩ := r.two
      rw [h1.eq_int, h2.eq_str] at s
      exact ⟨_, rfl, s⟩
  | _ => cases l
end Z
namespace Z
open PySem PySem.Spec PyProof.Rows L2 GxR
theorem at_start {t : TS} {D : Ends} {σ σ' : L2.St} {H : Hp} (e : σ = σ') (k : t D σ' H) : t D σ H := by
  rw [e]
  exact k
end Z
namespace Z
open PySem PySem.Spec PyProof.Rows L2 GxR
section
variable {K : PySem.W.Frag} {cs : List Addr} {C : Addr → Prop} {I : Hp → Prop} {H : Hp} {vs : List V} {ds : List PyData} {n : Nat} {f : List PyData → Option PyData} {Q : VK} {E : XK}
theorem useB {b : Bool} (W : Wd cs C I) (i : I H) (hd : RpAll K C H vs ds) (hf : f ds = some (.bool b)) (hn : vs.length = n) (k : ∀ H', Xt C I H H' → Q (.bl b) H') : spD K cs n f vs H Q E :=
  spD_use W i hd hf hn fun v H' X h => by
    rw [h.eq_bool]
    exact k H' X
theorem useI {b : Int} (W : Wd cs C I) (i : I H) (hd : RpAll K C H vs ds) (hf : f ds = some (.int b)) (hn : vs.length = n) (k : ∀ H', Xt C I H H' → Q (.int b) H') : spD K cs n f vs H Q E :=
  spD_use W i hd hf hn fun v H' X h => by
    rw [h.eq_int]
    exact k H' X
theorem useS {b : Str} (W : Wd cs C I) (i : I H) (hd : RpAll K C H vs ds) (hf : f ds = some (.str b)) (hn : vs.length = n) (k : ∀ H', Xt C I H H' → Q (.str b) H') : spD K cs n f vs H Q E :=
  spD_use W i hd hf hn fun v H' X h => by
    rw [h.eq_str]
    exact k H' X
end
end Z
namespace Z
open PySem PySem.Spec PyProof.Rows L2 GxR
/-! ### loops over ranges, lists, tuples -/
/-- what a for asks, once its iterator has come -/
def Fo (g : TG) (tb : TS) (D : Ends) (σ : L2.St) (J : It) (H1 : Hp) : Prop := ∃ W : Nat → Nat → L2.St → Hp → Prop, (∃ m, W 0 m σ H1) ∧ ∀ i m σ H, W i m σ H →
  (J.stop i H ∧ D.nx σ H) ∨
    (J.go i H ∧ ∃ N : L2.St → Hp → Prop, (∀ σ' H', N σ' H' → ∃ m', m' < m ∧ W (i + 1) m' σ' H') ∧ ∀ x H', J.yld i H x H' → g x σ H' fun σ2 H2 => tb { D with nx := N, ct := N, bk := D.nx } σ2 H2)
section
variable {K : PySem.W.Frag} {σ : L2.St} {H : Hp} {D : Ends} {ta : TA} {tl : TE} {tb : TS} {j : Nat} {wi : TI} {g : TG}
theorem r_for (k : wi σ H (Fo g tb D σ)) : tFor wi g tb D σ H := k
theorem r_irng1 {R : It → Hp → Prop} (k : ta σ H fun vs H1 => ∃ j : Int, vs = [.int j] ∧ -(2 ^ 62) ≤ j ∧ j < 2 ^ 62 ∧ R (Itr 0 j.toNat) H1) : iRng1 ta σ H R := k
theorem r_irng2 {R : It → Hp → Prop} (k : ta σ H fun vs H1 => ∃ i j : Int, vs = [.int i, .int j] ∧ (-(2 ^ 62) ≤ i ∧ i < 2 ^ 62 ∧ -(2 ^ 62) ≤ j ∧ j < 2 ^ 62) ∧ R (Itr i (j - i).toNat) H1) : iRng2 ta σ H R := k
theorem r_ilist {R : It → Hp → Prop} (k : tl σ H fun x H1 => ∃ a, x = .ref a ∧ (∃ xs, SqL K H1 a xs) ∧ R (Itl K a) H1) : iList K tl σ H R := k
theorem r_ituple {R : It → Hp → Prop} (k : tl σ H fun x H1 => ∃ a, x = .ref a ∧ (∃ xs, SqT K H1 a xs) ∧ R (Itt K a) H1) : iTup K tl σ H R := k
/-- for k in range(n) -/
theorem l_rng1 {n : Int} {m : Nat} (hm : n = (m : Int)) (hb : m ≤ 100000) (Pv : Nat → L2.St → Hp → Prop) (h0 : Pv 0 σ H)
    (hs : ∀ i σ' H', i < m → Pv i σ' H' → tb { D with nx := Pv (i + 1), ct := Pv (i + 1), bk := D.nx } (σ'.set j (some (.int (i : Int)))) H') (hd : ∀ σ' H', Pv m σ' H' → D.nx σ' H') :
    ∃ j' : Int, [V.int n] = [.int j'] ∧ -(2 ^ 62) ≤ j' ∧ j' < 2 ^ 62 ∧ Fo (gName j) tb D σ (Itr 0 j'.toNat) H := by
  subst hm
  refine ⟨m, rfl, by omega, by omega, ?_⟩
  refine for_range (lo := 0) (n := (m : Int).toNat) Pv h0 (fun i σ' H' hi p => ?_) (fun σ' H' p => hd σ' H' (by rw [Int.toNat_natCast] at p; exact p))
  show tb { D with nx := Pv (i + 1), ct := Pv (i + 1), bk := D.nx } (σ'.set j (some (.int ((0 : Int) + (i : Int))))) H'
  rw [Int.zero_add]
  exact hs i σ' H' (by rw [Int.toNat_natCast] at hi; exact hi) p
/-- for k in range(lo, n) -/
theorem l_rng2 {lo n : Int} {m : Nat} (hm : (n - lo).toNat = m) (hb : 0 ≤ lo ∧ lo ≤ 100000 ∧ -100000 ≤ n ∧ n ≤ 100000) (Pv : Nat → L2.St → Hp → Prop) (h0 : Pv 0 σ H)
    (hs : ∀ i σ' H', i < m → Pv i σ' H' → tb { D with nx := Pv (i + 1), ct := Pv (i + 1), bk := D.nx } (σ'.set j (some (.int (lo + (i : Int))))) H') (hd : ∀ σ' H', Pv m σ' H' → D.nx σ' H') :
    ∃ i' j' : Int, [V.int lo, V.int n] = [.int i', .int j'] ∧ (-(2 ^ 62) ≤ i' ∧ i' < 2 ^ 62 ∧ -(2 ^ 62) ≤ j' ∧ j' < 2 ^ 62) ∧ Fo (gName j) tb D σ (Itr i' (j' - i').toNat) H := by
  subst hm
  exact ⟨lo, n, rfl, by omega, for_range (lo := lo) (n := (n - lo).toNat) Pv h0 (fun i σ' H' hi p => hs i σ' H' hi p) hd⟩
/-- for x in list -/
theorem l_list {a : Addr} {xs : List V} (hx : SqL K H a xs) (Pv : Nat → L2.St → Hp → Prop) (h0 : Pv 0 σ H) (hl : ∀ i σ' H', i ≤ xs.length → Pv i σ' H' → SqL K H' a xs)
    (hs : ∀ i x σ' H', xs[i]? = some x → Pv i σ' H' → g x σ' H' fun σ2 H2 => tb { D with nx := Pv (i + 1), ct := Pv (i + 1), bk := D.nx } σ2 H2) (hd : ∀ σ' H', Pv xs.length σ' H' → D.nx σ' H') :
    ∃ a', V.ref a = .ref a' ∧ (∃ xs, SqL K H a' xs) ∧ Fo g tb D σ (Itl K a') H := ⟨a, rfl, ⟨xs, hx⟩, for_list Pv h0 hl hs hd⟩
theorem l_tup {a : Addr} {xs : List V} (hx : SqT K H a xs) (Pv : Nat → L2.St → Hp → Prop) (h0 : Pv 0 σ H) (hl : ∀ i σ' H', i ≤ xs.length → Pv i σ' H' → SqT K H' a xs)
    (hs : ∀ i x σ' H', xs[i]? = some x → Pv i σ' H' → g x σ' H' fun σ2 H2 => tb { D with nx := Pv (i + 1), ct := Pv (i + 1), bk := D.nx } σ2 H2) (hd : ∀ σ' H', Pv xs.length σ' H' → D.nx σ' H') :
    ∃ a', V.ref a = .ref a' ∧ (∃ xs, SqT K H a' xs) ∧ Fo g tb D σ (Itt K a') H := ⟨a, rfl, ⟨xs, hx⟩, for_tup Pv h0 hl hs hd⟩
/-- xs.append(e) -/
theorem r_bm {T : String} {r : V → List V → Hp → VK → Prop} {to : TE} {Q : VK} (k : to σ H fun x H1 => tyV K T x H1 ∧ ta σ H1 fun xs H2 => r x xs H2 Q) : tBM K T r to ta σ H Q := k
theorem ty_list {a : Addr} {xs : List V} (h : SqL K H a xs) : tyV K "list" (.ref a) H := Or.inl ⟨rfl, xs, h⟩
theorem r_app {l : Addr} {xs : List V} {y : V} {Q : VK} (h : H l = some (.lst xs)) (hz : xs.length < 100000) (k : Q .non (upd H l (.lst (xs ++ [y])))) : rAppend (.ref l) [y] H Q :=
  ⟨l, xs, y, rfl, rfl, h, Nat.lt_of_lt_of_le hz (by decide), k⟩
/-- a[i] = e -/
theorem r_gsub {to ti : TE} {t : TSet} {v : V} {QS : L2.St → Hp → Prop} (k : to σ H fun o H1 => ti σ H1 fun i H2 => t o i v H2 fun H3 => QS σ H3) : gSub to ti t v σ H QS := k
theorem r_setL {l : Addr} {xs : List V} {i : Int} {n : Nat} {v : V} {QH : Hp → Prop} (h : H l = some (.lst xs)) (e : i = (n : Int)) (hn : n < xs.length) (k : QH (upd H l (.lst (xs.set n v)))) : rSetL (.ref l) (.int i) v H QH := by
  subst e
  refine ⟨l, xs, n, n, rfl, rfl, h, ?_, k⟩
  unfold ixN
  rw [if_pos (by omega), if_pos (by omega)]
  simp
theorem r_sl {r : V → Option Int → Option Int → Hp → VK → Prop} {te : TE} {tl th : TO} {Q : VK} (k : te σ H fun x H1 => tl σ H1 fun l H2 => th σ H2 fun u H3 => r x l u H3 Q) : tSl r te tl th σ H Q := k
theorem r_nopart {Q : Option Int → Hp → Prop} (k : Q none H) : tNoPart σ H Q := k
theorem r_part {te : TE} {Q : Option Int → Hp → Prop} (k : te σ H fun x H1 => ∃ i, x = .int i ∧ Q (some i) H1) : tPart te σ H Q := k
theorem r_intp {n : Int} {P : Int → Prop} (k : P n) : ∃ i, V.int n = .int i ∧ P i := ⟨n, rfl, k⟩
theorem r_slS {z : Str} {lo hi : Option Int} {Q : VK} (h : z.length ≤ sizeLine) (k : Q (.str (cutS z lo hi)) H) : rSlG K (.str z) lo hi H Q := Or.inr (Or.inr ⟨z, rfl, h, k⟩)
theorem r_slL {a : Addr} {xs : List V} {lo hi : Option Int} {Q : VK} (h : SqL K H a xs) (k : ∀ p, H p = none → Q (.ref p) (upd H p (.lst (cutV xs lo hi)))) : rSlG K (.ref a) lo hi H Q := Or.inl ⟨a, xs, rfl, h, k⟩
theorem at_lit {xs : List V} {n : Nat} {v : V} (h : xs[n]? = some v) : atI xs (n : Int) = some v := atI_nat h
end
/-! ### the box of a law's draws -/
/-- at b the pair of the digits' list at d and the next place -/
def BoxI (b d : Addr) (H : Hp) : Prop := ∃ (n : Nat) (ms : List Int), H b = some (.lst [.ref d, .int n]) ∧ H d = some (.lst (ms.map V.int)) ∧ ∀ m ∈ ms, 0 ≤ m
structure Bx (C : Addr → Prop) (I : Hp → Prop) (b d : Addr) : Prop where
  box : ∀ H, I H → BoxI b d H
  put : ∀ (H : Hp) (n : Nat), I H → I (upd H b (.lst [.ref d, .int n]))
  cb : C b
def C0 (cs : List Addr) (a : Addr) : Prop := a ∈ cs
def I0 (cs : List Addr) (H : Hp) : Prop := ∀ P ∈ cs, TabG H P
def C1 (cs : List Addr) (b d a : Addr) : Prop := a ∈ cs ∨ a = b ∨ a = d
def I1 (cs : List Addr) (b d : Addr) (H : Hp) : Prop := (∀ P ∈ cs, TabG H P) ∧ BoxI b d H
section
variable {cs : List Addr} {b d : Addr}
theorem tabG_move {H H' : Hp} {P P' : Addr} (h : TabG H P') (t : TabG H' P) (s : ∀ b, b ≠ P → H' b = H b) : TabG H' P' := by
  by_cases e : P' = P
  · rw [e]
    exact t
  · obtain ⟨ps, h1, h2⟩ := h
    exact ⟨ps, by rw [s P' e]; exact h1, h2⟩
theorem wd0 : Wd cs (C0 cs) (I0 cs) where
  ne := fun H a i c => by
    obtain ⟨ps, h, _⟩ := i a c
    exact ⟨_, h⟩
  stay := fun H H' i s P hP => by
    obtain ⟨ps, h, t⟩ := i P hP
    exact ⟨ps, by rw [s P hP]; exact h, t⟩
  tabC := fun P hP => hP
  tabG := fun P hP H i => i P hP
  tabS := fun P hP H H' i t s P' hP' => tabG_move (i P' hP') t s
theorem wd1 : Wd cs (C1 cs b d) (I1 cs b d) where
  ne := fun H a i c => by
    rcases c with c | rfl | rfl
    · obtain ⟨ps, h, _⟩ := i.1 a c
      exact ⟨_, h⟩
    · obtain ⟨n, ms, h, _⟩ := i.2
      exact ⟨_, h⟩
    · obtain ⟨n, ms, _, h, _⟩ := i.2
      exact ⟨_, h⟩
  stay := fun H H' i s => ⟨fun P hP => by
      obtain ⟨ps, h, t⟩ := i.1 P hP
      exact ⟨ps, by rw [s P (Or.inl hP)]; exact h, t⟩, by
    obtain ⟨n, ms, h1, h2, h3⟩ := i.2
    exact ⟨n, ms, by rw [s b (Or.inr (Or.inl rfl))]; exact h1, by rw [s d (Or.inr (Or.inr rfl))]; exact h2, h3⟩⟩
  tabC := fun P hP => Or.inl hP
  tabG := fun P hP H i => i.1 P hP
  tabS := fun P hP H H' i t s => ⟨fun P' hP' => tabG_move (i.1 P' hP') t s, by
    obtain ⟨n, ms, h1, h2, h3⟩ := i.2
    obtain ⟨ps, h4, _⟩ := i.1 P hP
    exact ⟨n, ms, by rw [s b (ne_of h1 h4 (fun z => by cases z))]; exact h1, by rw [s d (ne_of h2 h4 (fun z => by cases z))]; exact h2, h3⟩⟩
theorem bx1 : Bx (C1 cs b d) (I1 cs b d) b d where
  box := fun H i => i.2
  put := fun H n i => by
    obtain ⟨m, ms, h1, h2, h3⟩ := i.2
    have ne : d ≠ b := fun z => by
      rw [z, h1] at h2
      have e := Option.some.inj h2
      injection e with e
      cases ms with
      | nil => cases e
      | cons x xs =>
        injection e with e _
        cases e
    refine ⟨fun P hP => ?_, n, ms, upd_same, by rw [upd_ne ne]; exact h2, h3⟩
    obtain ⟨ps, h4, t⟩ := i.1 P hP
    exact ⟨ps, by rw [upd_ne (ne_of h4 h1 (fun z => by cases z))]; exact h4, t⟩
  cb := Or.inr (Or.inl rfl)
/-- the box is made: from the tables alone to the tables and the box -/
theorem box_made {H1 : Hp} {ms : List Int} (i : I0 cs H1) (hd : H1 d = some (.lst (ms.map V.int))) (hm : ∀ m ∈ ms, 0 ≤ m) (hb : H1 b = none) : I1 cs b d (upd H1 b (.lst [.ref d, .int 0])) :=
  ⟨fun P hP => by
    obtain ⟨ps, h4, t⟩ := i P hP
    exact ⟨ps, by rw [upd_ne (ne_of_none h4 hb)]; exact h4, t⟩, 0, ms, upd_same, by rw [upd_ne (ne_of_none hd hb)]; exact hd, hm⟩
end
end Z
namespace Z
open PySem PySem.Spec PyProof.Rows L2 GxR
theorem Bx.xt {C : Addr → Prop} {I : Hp → Prop} {b d : Addr} {H : Hp} (B : Bx C I b d) (i : I H) (n : Nat) : Xt C I H (upd H b (.lst [.ref d, .int n])) :=
  ⟨fun a o na e => by
    have ne : a ≠ b := fun z => na (by rw [z]; exact B.cb)
    rw [upd_ne ne]
    exact e, B.put H n i⟩
/-- _law_draw(box, many): some int from 0 on, below many; the box goes on -/
def spDraw (cs : List Addr) : Sp := fun vs H Q _ => ∃ (C : Addr → Prop) (I : Hp → Prop) (b d : Addr) (many : Int), vs = [.ref b, .int many] ∧ 0 < many ∧ Wd cs C I ∧ I H ∧ Bx C I b d ∧
  ∀ (r : Int) (H' : Hp), 0 ≤ r → r < many → Xt C I H H' → Q (.int r) H'
theorem spDraw_len {cs : List Addr} {vs : List V} {H : Hp} {Q : VK} {E : XK} (h : spDraw cs vs H Q E) : vs.length = 2 := by
  obtain ⟨_, _, _, _, _, rfl, _⟩ := h
  rfl
theorem use_draw {cs : List Addr} {C : Addr → Prop} {I : Hp → Prop} {b d : Addr} {many : Int} {H : Hp} {Q : VK} {E : XK} (W : Wd cs C I) (i : I H) (B : Bx C I b d) (hm : 0 < many) (k : ∀ (r : Int) (H' : Hp), 0 ≤ r → r < many → Xt C I H H' → Q (.int r) H') :
    spDraw cs [.ref b, .int many] H Q E := ⟨C, I, b, d, many, rfl, hm, W, i, B, k⟩
/-- _law_same of the same flat value twice -/
def spSame : Sp := fun vs H Q _ => ∃ d : PyData, vs = [valD d, valD d] ∧ flatD d = true ∧ d.showable = true ∧ d.shown.length ≤ sizeLine ∧ Q (.bl true) H
theorem spSame_len {vs : List V} {H : Hp} {Q : VK} {E : XK} (h : spSame vs H Q E) : vs.length = 2 := by
  obtain ⟨_, rfl, _⟩ := h
  rfl
/-- texts of one or two letters, and the like: what a law draws -/
def goodD : PyData → Bool
  | .none => true
  | .int i => decide (-1000000000 ≤ i) && decide (i ≤ 1000000000)
  | .str x => azS x && decide (x.length ≤ 100) && PyData.canLay0 (.str x)
  | _ => false
theorem goodD_val {d : PyData} (h : goodD d = true) : isVal d = true := by
  cases d <;> first | rfl | (cases h; done) | skip
  rename_i x
  have h' : (azS x && decide (x.length ≤ 100) && PyData.canLay0 (.str x)) = true := h
  simp only [Bool.and_eq_true] at h'
  exact h'.1.1
theorem goodD_flat {d : PyData} (h : goodD d = true) : flatD d = true := by
  cases d <;> first | rfl | (cases h; done)
theorem goodD_cmp {d : PyData} (h : goodD d = true) : cmpOk d = true := by
  cases d <;> first | rfl | (cases h; done) | skip
  rename_i x
  have h' : (azS x && decide (x.length ≤ 100) && PyData.canLay0 (.str x)) = true := h
  simp only [Bool.and_eq_true] at h'
  exact h'.2
theorem goodD_len {d : PyData} (h : goodD d = true) : lenOk d = true := by
  cases d <;> first | rfl | (cases h; done) | skip
  rename_i x
  have h' : (azS x && decide (x.length ≤ 100) && PyData.canLay0 (.str x)) = true := h
  simp only [Bool.and_eq_true, decide_eq_true_eq] at h'
  exact decide_eq_true (small_of (by omega))
theorem goodD_str {x : Str} (h : goodD (.str x) = true) : azS x = true ∧ x.length ≤ 100 := by
  have h' : (azS x && decide (x.length ≤ 100) && PyData.canLay0 (.str x)) = true := h
  simp only [Bool.and_eq_true, decide_eq_true_eq] at h'
  exact h'.1
end Z
namespace Z
open PySem PySem.Spec PyProof.Rows L2 GxR
/-! ### new tuples, new lists -/
section
variable {K : PySem.W.Frag} {cs : List Addr} {C : Addr → Prop} {I : Hp → Prop} {H : Hp} {xs : List V} {ds : List PyData} {Q : VK}
theorem newT (W : Wd cs C I) (i : I H) (r : RpAll K C H xs ds) (hz : Nat.ble xs.length 100000 = true) (k : ∀ p H', H p = none → ¬ C p → Xt C I H H' → Rp K C H' (.ref p) (.tuple ds) → Q (.ref p) H') :
    NewT xs H Q := by
  refine ⟨small_of (Nat.le_of_ble_eq_true hz), fun p hp => ?_⟩
  have X := (Xt.refl i).put W hp (o := .tup xs)
  have n := W.new i hp
  exact k p _ hp n X (.tup (StT.of n upd_same) (r.mono X.1))
theorem newL (W : Wd cs C I) (i : I H) (hz : Nat.ble xs.length 100000 = true) (k : ∀ p H', H p = none → ¬ C p → Xt C I H H' → H' p = some (.lst xs) → Q (.ref p) H') :
    NewL xs H Q := by
  refine ⟨small_of (Nat.le_of_ble_eq_true hz), fun p hp => ?_⟩
  exact k p _ hp (W.new i hp) ((Xt.refl i).put W hp) upd_same
end
/-- a sign's place in the alphabet, as text.index tells it -/
theorem abc_index : ((List.range 26).all fun j => match Builtin.Str.occurrences (Str.ofString "abcdefghijklmnopqrstuvwxyz") ⟨#[97 + j]⟩ 0 (Str.ofString "abcdefghijklmnopqrstuvwxyz").length 1 with | x :: _ => decide (x = j) | [] => false) = true := by decide +kernel
theorem abc_at {c : Nat} (h : azC c = true) : ∃ rest, Builtin.Str.occurrences (Str.ofString "abcdefghijklmnopqrstuvwxyz") ⟨#[c]⟩ 0 (Str.ofString "abcdefghijklmnopqrstuvwxyz").length 1 = (c - 97) :: rest := by
  unfold azC at h
  simp only [Bool.and_eq_true, decide_eq_true_eq] at h
  have m := List.all_eq_true.mp abc_index (c - 97) (List.mem_range.mpr (by omega))
  rw [show 97 + (c - 97) = c by omega] at m
  cases e : Builtin.Str.occurrences (Str.ofString "abcdefghijklmnopqrstuvwxyz") ⟨#[c]⟩ 0 (Str.ofString "abcdefghijklmnopqrstuvwxyz").length 1 with
  | nil =>
    rw [e] at m
    cases m
  | cons x rest =>
    rw [e] at m
    rw [of_decide_eq_true m]
    exact ⟨rest, rfl⟩
/-! ### the order of lists of signs -/
theorem lex_at : ∀ (k : Nat) (xs ys : List Nat) (a b : Nat), xs.take k = ys.take k → xs[k]? = some a → ys[k]? = some b → a ≠ b → decide (xs < ys) = decide (a < b)
  | 0, [], _, _, _, _, h, _, _ => by simp at h
  | 0, _ :: _, [], _, _, _, _, h, _ => by simp at h
  | 0, x :: xs, y :: ys, a, b, _, hx, hy, ne => by
    have e1 : x = a := by simpa using hx
    have e2 : y = b := by simpa using hy
    subst e1 e2
    by_cases h : x < y
    · rw [decide_eq_true h, decide_eq_true (List.cons_lt_cons_iff.mpr (Or.inl h))]
    · rw [decide_eq_false h]
      refine decide_eq_false fun z => ?_
      rcases List.cons_lt_cons_iff.mp z with z | ⟨z, _⟩
      · exact h z
      · exact ne z
  | k + 1, [], _, _, _, _, h, _, _ => by simp at h
  | k + 1, _ :: _, [], _, _, _, _, h, _ => by simp at h
  | k + 1, x :: xs, y :: ys, a, b, ht, hx, hy, ne => by
    simp only [List.take_succ_cons] at ht
    injection ht with e1 e2
    subst e1
    have ih := lex_at k xs ys a b e2 (by simpa using hx) (by simpa using hy) ne
    rw [← ih]
    by_cases h : xs < ys
    · rw [decide_eq_true h, decide_eq_true (List.cons_lt_cons_iff.mpr (Or.inr ⟨rfl, h⟩))]
    · rw [decide_eq_false h]
      refine decide_eq_false fun z => ?_
      rcases List.cons_lt_cons_iff.mp z with z | ⟨_, z⟩
      · exact absurd z (Nat.lt_irrefl _)
      · exact h z
theorem lex_pre : ∀ (xs ys : List Nat), xs.take (min xs.length ys.length) = ys.take (min xs.length ys.length) → decide (xs < ys) = decide (xs.length < ys.length)
  | [], [], _ => by simp
  | [], y :: ys, _ => by simp
  | x :: xs, [], _ => by simp
  | x :: xs, y :: ys, h => by
    have e : min (x :: xs).length (y :: ys).length = min xs.length ys.length + 1 := by simp only [List.length_cons]; omega
    rw [e] at h
    simp only [List.take_succ_cons] at h
    injection h with e1 e2
    subst e1
    have ih := lex_pre xs ys e2
    by_cases g : xs < ys
    · rw [decide_eq_true g] at ih
      have := of_decide_eq_true ih.symm
      rw [decide_eq_true (List.cons_lt_cons_iff.mpr (Or.inr ⟨rfl, g⟩)), decide_eq_true (by simp only [List.length_cons]; omega)]
    · rw [decide_eq_false g] at ih
      have := of_decide_eq_false ih.symm
      rw [decide_eq_false (show ¬ (x :: xs).length < (x :: ys).length by simp only [List.length_cons]; omega)]
      refine decide_eq_false fun z => ?_
      rcases List.cons_lt_cons_iff.mp z with z | ⟨_, z⟩
      · exact absurd z (Nat.lt_irrefl _)
      · exact g z
/-- what _law_before counts of a value: 0 for nothing, 1 for an int, 2 for a text -/
def kdD : PyData → Int
  | .none => 0
  | .str _ => 2
  | _ => 1
end Z
namespace Z
open PySem PySem.Spec PyProof.Rows L2 GxR
/-! ### comprehensions whose elements are data -/
section
variable {K : PySem.W.Frag} {cs : List Addr} {C C' : Addr → Prop} {I : Hp → Prop} {H H' : Hp} {D : Addr}
/-- the new list at D beside C -/
def CD (C : Addr → Prop) (D a : Addr) : Prop := C a ∨ a = D
def ID (I : Hp → Prop) (D : Addr) (xs : List V) (H : Hp) : Prop := I H ∧ H D = some (.lst xs)
theorem wdD {acc : List V} (W : Wd cs C I) (n : ¬ C D) : Wd cs (CD C D) (ID I D acc) where
  ne := fun H a i c => by
    rcases c with c | rfl
    · exact W.ne H a i.1 c
    · exact ⟨_, i.2⟩
  stay := fun H H' i s => ⟨W.stay H H' i.1 fun a c => s a (Or.inl c), by
    rw [s D (Or.inr rfl)]
    exact i.2⟩
  tabC := fun P hP => Or.inl (W.tabC P hP)
  tabG := fun P hP H i => W.tabG P hP H i.1
  tabS := fun P hP H H' i t s => ⟨W.tabS P hP H H' i.1 t s, by
    rw [s D fun z => n (by rw [z]; exact W.tabC P hP)]
    exact i.2⟩
theorem bxD {acc : List V} {b d : Addr} (B : Bx C I b d) (n : ¬ C D) : Bx (CD C D) (ID I D acc) b d where
  box := fun H i => B.box H i.1
  put := fun H m i => ⟨B.put H m i.1, by
    rw [upd_ne fun z => n (by rw [z]; exact B.cb)]
    exact i.2⟩
  cb := Or.inl B.cb
theorem StL.less {a : Addr} {xs : List V} (le : ∀ a, C a → C' a) (h : StL K C' H a xs) : StL K C H a xs := by
  rcases h with ⟨n, h⟩ | h
  · exact Or.inl ⟨fun c => n (le a c), h⟩
  · exact Or.inr h
theorem StT.less {a : Addr} {xs : List V} (le : ∀ a, C a → C' a) (h : StT K C' H a xs) : StT K C H a xs := by
  rcases h with ⟨n, h⟩ | h
  · exact Or.inl ⟨fun c => n (le a c), h⟩
  · exact Or.inr h
theorem StM.less {a : Addr} {xs : List V} (le : ∀ a, C a → C' a) (h : StM C' H a xs) : StM C H a xs := ⟨fun c => h.1 (le a c), h.2⟩
mutual
theorem Rp.less (le : ∀ a, C a → C' a) : ∀ {d : PyData} {v : V}, Rp K C' H v d → Rp K C H v d
  | _, _, .non => .non
  | _, _, .bl b => .bl b
  | _, _, .int i => .int i
  | _, _, .str x => .str x
  | .list _, _, .lst s r => .lst (s.less le) (RpAll.less le r)
  | .tuple _, _, .tup s r => .tup (s.less le) (RpAll.less le r)
theorem RpAll.less (le : ∀ a, C a → C' a) : ∀ {ds : List PyData} {vs : List V}, RpAll K C' H vs ds → RpAll K C H vs ds
  | [], _, .nil => .nil
  | _ :: _, _, .cons h t => .cons (Rp.less le h) (RpAll.less le t)
end
/-- what H knows does not lie at D, of which H knows nothing -/
theorem rd_ne {a : Addr} {u : HO} (h : Rd H a u) (hD : H D = none) : a ≠ D := by
  rcases h with h | ⟨o, h⟩
  · exact ne_of_none h hD
  · exact ne_of_none h hD
theorem StL.more {a : Addr} {xs : List V} (hD : H D = none) (k : Kp C H H') (h : StL K C H a xs) : StL K (CD C D) H' a xs := by
  rcases h with ⟨n, h⟩ | h
  · exact Or.inl ⟨fun c => c.elim n (rd_ne h hD), k.rd n h⟩
  · exact Or.inr h
theorem StT.more {a : Addr} {xs : List V} (hD : H D = none) (k : Kp C H H') (h : StT K C H a xs) : StT K (CD C D) H' a xs := by
  rcases h with ⟨n, h⟩ | h
  · exact Or.inl ⟨fun c => c.elim n (rd_ne h hD), k.rd n h⟩
  · exact Or.inr h
theorem StM.more {a : Addr} {xs : List V} (hD : H D = none) (k : Kp C H H') (h : StM C H a xs) : StM (CD C D) H' a xs := ⟨fun c => c.elim h.1 (ne_of_none h.2 hD), k a _ h.1 h.2⟩
mutual
theorem Rp.more (hD : H D = none) (k : Kp C H H') : ∀ {d : PyData} {v : V}, Rp K C H v d → Rp K (CD C D) H' v d
  | _, _, .non => .non
  | _, _, .bl b => .bl b
  | _, _, .int i => .int i
  | _, _, .str x => .str x
  | .list _, _, .lst s r => .lst (s.more hD k) (RpAll.more hD k r)
  | .tuple _, _, .tup s r => .tup (s.more hD k) (RpAll.more hD k r)
theorem RpAll.more (hD : H D = none) (k : Kp C H H') : ∀ {ds : List PyData} {vs : List V}, RpAll K C H vs ds → RpAll K (CD C D) H' vs ds
  | [], _, .nil => .nil
  | _ :: _, _, .cons h t => .cons (Rp.more hD k h) (RpAll.more hD k t)
end
/-- what is known within a turn: the context C', I' at H', and how what was known ahead comes over -/
structure Tn (K : PySem.W.Frag) (cs : List Addr) (C : Addr → Prop) (I : Hp → Prop) (H : Hp) (C' : Addr → Prop) (I' : Hp → Prop) (H' : Hp) : Prop where
  W : Wd cs C' I'
  i : I' H'
  rp : ∀ {v d}, Rp K C H v d → Rp K C' H' v d
  stL : ∀ {a xs}, StL K C H a xs → StL K C' H' a xs
  stT : ∀ {a xs}, StT K C H a xs → StT K C' H' a xs
  bx : ∀ {b d}, Bx C I b d → Bx C' I' b d
/-- what a comprehension asks, once its iterator has come -/
def Lc (g : TG) (tt : TT) (te : TE) (vs : List Nat) (σ : L2.St) (Q : VK) (J : It) (H1 : Hp) : Prop := ∀ D, H1 D = none → ∃ W : Nat → Nat → Hp → Prop, (∃ m, W 0 m (upd H1 D (.lst []))) ∧ ∀ i m H, W i m H →
  (J.stop i H ∧ Q (.ref D) H) ∨ (J.go i H ∧ ∃ Nx : Hp → Prop, (∀ H', Nx H' → ∃ m', m' < m ∧ W (i + 1) m' H') ∧ ∀ x H', J.yld i H x H' → g x (wipe σ vs) H' fun σ2 H2 => wipe σ2 vs = wipe σ vs ∧ tt σ2 H2 fun b H3 =>
    if b = true then te σ2 H3 fun y H4 => ∃ acc, H4 D = some (.lst acc) ∧ acc.length < sizeLine ∧ Nx (upd H4 D (.lst (acc ++ [y]))) else Nx H3)
variable {σ : L2.St} {g : TG} {tt : TT} {te : TE} {vs : List Nat} {wi : TI} {Q : VK} {a : Addr} {xs : List V}
theorem r_lc (k : wi σ H (Lc g tt te vs σ Q)) : tLc wi g tt te vs σ H Q := k
/-- one turn of a comprehension: from the j-th item the j-th datum -/
def Turns (K : PySem.W.Frag) (cs : List Addr) (C : Addr → Prop) (I : Hp → Prop) (H : Hp) (g : TG) (te : TE) (vs : List Nat) (σ : L2.St) (xs : List V) (ds : List PyData) : Prop :=
  ∀ (j : Nat) (x : V) (d : PyData) (C' : Addr → Prop) (I' : Hp → Prop) (H' : Hp), xs[j]? = some x → ds[j]? = some d → Tn K cs C I H C' I' H' → ∀ Q' : VK, (∀ y H4, Xt C' I' H' H4 → Rp K C' H4 y d → Q' y H4) → g x (wipe σ vs) H' fun σ2 H2 => wipe σ2 vs = wipe σ vs ∧ te σ2 H2 Q'
/-- what holds between two turns -/
def LcInv (K : PySem.W.Frag) (C : Addr → Prop) (I : Hp → Prop) (H : Hp) (D : Addr) (ds : List PyData) (i : Nat) (H' : Hp) : Prop := Xt C I H H' ∧ ∃ acc, H' D = some (.lst acc) ∧ RpAll K (CD C D) H' acc (ds.take i)
theorem lcInv_step (W : Wd cs C I) (hD : H D = none) (n : ¬ C D) {ds : List PyData} {i : Nat} {H' : Hp} {x : V} (h : LcInv K C I H D ds i H') (hi : i < ds.length) (hz : ds.length ≤ 100000) (hx : xs[i]? = some x) (turn : Turns K cs C I H g te vs σ xs ds)
    {Nx : Hp → Prop} (hN : ∀ H'', LcInv K C I H D ds (i + 1) H'' → Nx H'') :
    g x (wipe σ vs) H' fun σ2 H2 => wipe σ2 vs = wipe σ vs ∧ te σ2 H2 fun y H4 => ∃ acc, H4 D = some (.lst acc) ∧ acc.length < sizeLine ∧ Nx (upd H4 D (.lst (acc ++ [y]))) := by
  obtain ⟨X, acc, ha, hr⟩ := h
  have W' := wdD (D := D) (acc := acc) W n
  have hlen : acc.length = i := by
    rw [hr.len, List.length_take]
    omega
  refine turn i x (ds[i]) (CD C D) (ID I D acc) H' hx (List.getElem?_eq_getElem hi) ⟨W', ⟨X.2, ha⟩, fun r => r.more hD X.1, fun r => r.more hD X.1, fun r => r.more hD X.1, fun B => bxD B n⟩ _ fun y H4 X4 r4 => ?_
  have hy : H4 D = some (.lst acc) := X4.2.2
  refine ⟨acc, hy, Nat.lt_of_lt_of_le (show acc.length < 100000 by omega) (by decide), hN _ ⟨?_, acc ++ [y], upd_same, ?_⟩⟩
  · refine ⟨fun b u nb e => ?_, W.stay _ _ X4.2.1 fun b cb => upd_ne fun z => n (by rw [← z]; exact cb)⟩
    have hb : b ≠ D := ne_of_none e hD
    rw [upd_ne hb]
    exact X4.1 b u (fun c => c.elim nb hb) (X.1 b u nb e)
  · have e : ds.take (i + 1) = ds.take i ++ [ds[i]] := by
      rw [List.take_succ, List.getElem?_eq_getElem hi]
      rfl
    have kp : Kp (CD C D) H4 (upd H4 D (.lst (acc ++ [y]))) := fun b u nb e => by
      rw [upd_ne fun z => nb (Or.inr z)]
      exact e
    rw [e]
    exact ((hr.mono X4.1).mono kp).app (.cons (r4.mono kp) .nil)
/-- over a tuple -/
theorem l_lcT (W : Wd cs C I) (i0 : I H) (hx : StT K C H a xs) {ds : List PyData} (hl : xs.length = ds.length) (hz : ds.length ≤ 100000) (turn : Turns K cs C I H g te vs σ xs ds)
    (k : ∀ (D : Addr) (ys : List V) (H' : Hp), H D = none → ¬ C D → Xt C I H H' → H' D = some (.lst ys) → RpAll K C H' ys ds → Q (.ref D) H') :
    ∃ a', V.ref a = .ref a' ∧ (∃ xs, SqT K H a' xs) ∧ Lc g tYes te vs σ Q (Itt K a') H := by
  refine ⟨a, rfl, ⟨xs, hx.sq⟩, fun D hD => ?_⟩
  have n := W.new i0 hD
  refine lc_tup (K := K) (a := a) (xs := xs) (fun i H' => LcInv K C I H D ds i H') ⟨(Xt.refl i0).put W hD, [], upd_same, .nil⟩ (fun i H' _ p => (hx.mono p.1.1).sq) (fun i x H' hxi p => ?_) (fun H' p => ?_)
  · have hi : i < ds.length := by
      rw [← hl]
      exact (List.getElem?_eq_some_iff.mp hxi).1
    exact lcInv_step W hD n p hi hz hxi turn fun _ q => q
  · obtain ⟨X, acc, ha, hr⟩ := p
    rw [hl, List.take_length] at hr
    exact k D acc H' hD n X ha (hr.less fun _ c => Or.inl c)
/-- over a list -/
theorem l_lcL (W : Wd cs C I) (i0 : I H) (hx : StL K C H a xs) {ds : List PyData} (hl : xs.length = ds.length) (hz : ds.length ≤ 100000) (turn : Turns K cs C I H g te vs σ xs ds)
    (k : ∀ (D : Addr) (ys : List V) (H' : Hp), H D = none → ¬ C D → Xt C I H H' → H' D = some (.lst ys) → RpAll K C H' ys ds → Q (.ref D) H') :
    ∃ a', V.ref a = .ref a' ∧ (∃ xs, SqL K H a' xs) ∧ Lc g tYes te vs σ Q (Itl K a') H := by
  refine ⟨a, rfl, ⟨xs, hx.sq⟩, fun D hD => ?_⟩
  have n := W.new i0 hD
  refine lc_list (K := K) (a := a) (xs := xs) (fun i H' => LcInv K C I H D ds i H') ⟨(Xt.refl i0).put W hD, [], upd_same, .nil⟩ (fun i H' _ p => (hx.mono p.1.1).sq) (fun i x H' hxi p => ?_) (fun H' p => ?_)
  · have hi : i < ds.length := by
      rw [← hl]
      exact (List.getElem?_eq_some_iff.mp hxi).1
    exact lcInv_step W hD n p hi hz hxi turn fun _ q => q
  · obtain ⟨X, acc, ha, hr⟩ := p
    rw [hl, List.take_length] at hr
    exact k D acc H' hD n X ha (hr.less fun _ c => Or.inl c)
end
end Z
namespace Z
open PySem PySem.Spec PyProof.Rows L2 GxR
section
variable {K : PySem.W.Frag} {cs : List Addr} {C : Addr → Prop} {I : Hp → Prop} {H : Hp} {xs : List V} {Q : VK}
theorem newTS (W : Wd cs C I) (i : I H) (hz : Nat.ble xs.length 100000 = true) (k : ∀ p H', H p = none → ¬ C p → Xt C I H H' → StT K C H' p xs → Q (.ref p) H') : NewT xs H Q := by
  refine ⟨small_of (Nat.le_of_ble_eq_true hz), fun p hp => ?_⟩
  have n := W.new i hp
  exact k p _ hp n ((Xt.refl i).put W hp) (StT.of n upd_same)
theorem len_cps (x : Str) : x.cps.toList.length = x.length := by
  show x.cps.toList.length = x.cps.size
  simp
theorem az_at {x : Str} (h : azS x = true) {j c : Nat} (e : x.cps.toList[j]? = some c) : azC c = true := List.all_eq_true.mp h c (List.mem_of_getElem? e)
theorem azC_ge {c : Nat} (h : azC c = true) : 97 ≤ c := by
  unfold azC at h
  simp only [Bool.and_eq_true, decide_eq_true_eq] at h
  exact h.1
theorem one_inj {a b : Nat} : (decide ((⟨#[a]⟩ : Str) = ⟨#[b]⟩)) = decide (a = b) := by
  by_cases h : a = b
  · subst h
    rw [decide_eq_true rfl, decide_eq_true rfl]
  · rw [decide_eq_false h]
    refine decide_eq_false fun z => h ?_
    injection z with z
    injection z with z
    injection z
end
end Z
namespace Z
theorem r_iT {A B : Prop} (k : A) : if true = true then A else B := k
theorem r_iF {A B : Prop} (k : B) : if false = true then A else B := k
theorem r_inT {A B : Prop} (k : B) : if (!true) = true then A else B := k
theorem r_inF {A B : Prop} (k : A) : if (!false) = true then A else B := k
theorem r_cT {c : Bool} {A B : Prop} (h : c = true) (k : A) : if c = true then A else B := by
  rw [h]
  exact k
theorem r_cF {c : Bool} {A B : Prop} (h : c = false) (k : B) : if c = true then A else B := by
  rw [h]
  exact k
end Z

namespace Z
theorem tabB_gx {base : PySem.Heap} {mg : PySem.Str → Option PySem.Value} {c P : PySem.Addr} (t : LamX.TabB base mg c P) : GxR.TabB base mg c P := ⟨t.code, t.bm, t.gP⟩
end Z
open Z in
local macro_rules | `(tactic| walk_at "z") => `(tactic| first
  | with_reducible refine r_seq ?_ | with_reducible refine r_asg ?_ | with_reducible refine r_ret ?_ | with_reducible refine r_ifS ?_ | with_reducible refine r_drop ?_ | with_reducible refine r_next ?_
  | with_reducible refine r_op ?_ | ((with_reducible refine' r_var ?hslot ?_); (case hslot => rfl)) | with_reducible refine r_c ?_ | with_reducible refine r_un ?_ | with_reducible refine r_tTest ?_ | with_reducible refine r_tB ?_ | with_reducible refine r_tNot ?_ | with_reducible refine r_tAnd ?_ | with_reducible refine r_tOr ?_
  | with_reducible refine r_andV ?_ | with_reducible refine r_orV ?_ | with_reducible refine r_notV ?_ | with_reducible refine r_ifx ?_ | with_reducible refine r_chain ?_
  | with_reducible refine r_nil ?_ | with_reducible refine r_cons ?_ | with_reducible refine r_cal ?_ | with_reducible refine r_cb ?_ | with_reducible refine r_tup ?_ | with_reducible refine r_lst ?_
  | with_reducible refine r_bl ?_ | with_reducible refine r_blp ?_
  | with_reducible refine r_addI ?_ | with_reducible refine r_sub ?_ | with_reducible refine r_neg ?_ | with_reducible refine r_eqI ?_ | with_reducible refine r_neI ?_ | with_reducible refine r_eqT ?_ | with_reducible refine r_neT ?_ | with_reducible refine r_neB ?_
  | with_reducible refine r_ltI ?_ | with_reducible refine r_ltS ?_ | with_reducible refine r_leI ?_ | with_reducible refine r_leS ?_ | with_reducible refine r_gtI ?_ | with_reducible refine r_geI ?_
  | with_reducible refine r_isN ?_ | with_reducible refine r_isB ?_ | with_reducible refine r_isnN ?_ | with_reducible refine r_isnB ?_
  | with_reducible refine r_intI ?_ | with_reducible refine r_intB ?_ | with_reducible refine r_min ?_
  | with_reducible refine r_for ?_ | with_reducible refine r_irng1 ?_ | with_reducible refine r_irng2 ?_ | with_reducible refine r_ilist ?_ | with_reducible refine r_ituple ?_ | with_reducible refine r_bm ?_ | with_reducible refine r_asgG ?_ | with_reducible refine r_gsub ?_ | with_reducible refine r_sl ?_ | with_reducible refine r_nopart ?_ | with_reducible refine r_part ?_ | with_reducible refine r_intp ?_ | with_reducible refine r_lc ?_ | with_reducible refine r_iT ?_ | with_reducible refine r_iF ?_ | with_reducible refine r_inT ?_ | with_reducible refine r_inF ?_ | ((with_reducible refine' r_cT ?hcond ?_); (case hcond => rfl)) | ((with_reducible refine' r_cF ?hcond ?_); (case hcond => rfl)))
open Z in
local macro_rules | `(tactic| walk_at "zz") => `(tactic| ((repeat walk_at "z"); try dsimp only))
namespace Z
open PySem PySem.Spec PyProof.Rows L2 GxR
/-! ### the text by places -/
def top (i : Nat) : Stmt := PySem.Challenge.pw_windowtable_k00_values_in_order.main.body.getD i (.Pass ⟨0, 0, 0, 0⟩)
abbrev s_law_draw : Stmt := top 18
abbrev s_law_some_value : Stmt := top 23
abbrev s_law_things : Stmt := top 24
abbrev s_law_cell : Stmt := top 14
abbrev s_law_digits : Stmt := top 17
abbrev s_law_same : Stmt := top 16
abbrev s_is_integer : Stmt := top 5
abbrev s_is_letters : Stmt := top 4
abbrev s_is_text : Stmt := top 6
abbrev s_is_value : Stmt := top 7
abbrev s_is_base : Stmt := top 8
abbrev s_law_before : Stmt := top 25
abbrev s_has_kind : Stmt := top 9
abbrev s_key_of : Stmt := top 10
abbrev s_compare : Stmt := top 11
abbrev s_law : Stmt := top 26
/-! ### what the top leaves -/
def d_law_draw : He.DefD := ⟨("_law_draw", none), "_law_draw", "_law_draw", defArgs s_law_draw, defBody s_law_draw, defScope s_law_draw, [], []⟩
def d_law_some_value : He.DefD := ⟨("_law_some_value", none), "_law_some_value", "_law_some_value", defArgs s_law_some_value, defBody s_law_some_value, defScope s_law_some_value, [], []⟩
def d_law_things : He.DefD := ⟨("_law_things", none), "_law_things", "_law_things", defArgs s_law_things, defBody s_law_things, defScope s_law_things, [], []⟩
def d_law_cell : He.DefD := ⟨("_law_cell", none), "_law_cell", "_law_cell", defArgs s_law_cell, defBody s_law_cell, defScope s_law_cell, [], []⟩
def d_law_digits : He.DefD := ⟨("_law_digits", none), "_law_digits", "_law_digits", defArgs s_law_digits, defBody s_law_digits, defScope s_law_digits, [], []⟩
def d_law_same : He.DefD := ⟨("_law_same", none), "_law_same", "_law_same", defArgs s_law_same, defBody s_law_same, defScope s_law_same, [], []⟩
def d_is_integer : He.DefD := ⟨("is_integer", none), "is_integer", "is_integer", defArgs s_is_integer, defBody s_is_integer, defScope s_is_integer, [], []⟩
def d_is_letters : He.DefD := ⟨("is_letters", none), "is_letters", "is_letters", defArgs s_is_letters, defBody s_is_letters, defScope s_is_letters, [], []⟩
def d_is_text : He.DefD := ⟨("is_text", none), "is_text", "is_text", defArgs s_is_text, defBody s_is_text, defScope s_is_text, [], []⟩
def d_is_value : He.DefD := ⟨("is_value", none), "is_value", "is_value", defArgs s_is_value, defBody s_is_value, defScope s_is_value, [], []⟩
def d_is_base : He.DefD := ⟨("is_base", none), "is_base", "is_base", defArgs s_is_base, defBody s_is_base, defScope s_is_base, [], []⟩
def d_law_before : He.DefD := ⟨("_law_before", none), "_law_before", "_law_before", defArgs s_law_before, defBody s_law_before, defScope s_law_before, [], []⟩
def d_has_kind : He.DefD := ⟨("has_kind", none), "has_kind", "has_kind", defArgs s_has_kind, defBody s_has_kind, defScope s_has_kind, [], []⟩
def d_key_of : He.DefD := ⟨("key_of", none), "key_of", "key_of", defArgs s_key_of, defBody s_key_of, defScope s_key_of, [], []⟩
def d_compare : He.DefD := ⟨("compare", none), "compare", "compare", defArgs s_compare, defBody s_compare, defScope s_compare, [], []⟩
def d_law : He.DefD := ⟨("law", none), "law", "law", defArgs s_law, defBody s_law, defScope s_law, [], []⟩
def fns : List He.DefD := [d_law_draw, d_law_some_value, d_law_things, d_law_cell, d_law_digits, d_law_same, d_is_integer, d_is_letters, d_is_text, d_is_value, d_is_base, d_law_before, d_has_kind, d_key_of, d_compare, d_law]
def fas : List He.Fa := [.glo "_law_draw", .glo "_law_some_value", .glo "_law_things", .glo "_law_cell", .glo "_law_digits", .glo "_law_same", .glo "is_integer", .glo "is_letters", .glo "is_text", .glo "is_value", .glo "is_base", .glo "_law_before", .glo "has_kind", .glo "key_of", .glo "compare", .glo "law", .int "LEAST_BASE" (-9999), .int "GREATEST_BASE" (9999), .int "LONGEST_BASE" (6), .free "len", .free "int", .free "range", .free "repr", .free "isinstance", .free "bool", .free "all", .free "str", .free "min"]
def tfs : List He.Defn := [("is_letters", none)]
def exs (_ : PySem.W.Frag) : Bool := true
abbrev R : PySem.W.OpenRow := PySem.W.OpenLaw.row PySem.Challenge.rw_windowtable_k00_values_in_order
abbrev hk : PySem.W.Hook := He.hookX 5 fas fns [] tfs exs
def ob (s : PySem.W.SharedT) : He.AlX := He.obsX 5 fas fns [] tfs exs (HandSHeadRun.getT s)
theorem run (w : World) : HandSHeadRun.RunEq R (PySem.W.view R.prog [26]) hk ob 6000 ["__name__", "LEAST_BASE", "GREATEST_BASE", "LONGEST_BASE", "is_letters", "is_integer", "is_text", "is_value", "is_base", "has_kind", "key_of", "compare", "_law_is_integer", "_law_cell", "_law_list_is", "_law_same", "_law_digits", "_law_draw", "_law_value", "_law_columns", "_law_rows", "_law_rank", "_law_some_value", "_law_things", "_law_before"] w := by
  intro os
  kernel_rfl
structure Tx (K : PySem.W.Frag) (mg : Str → Option Value) : Prop where
  d_law_draw : ∃ fd, FunD K "_law_draw" "_law_draw" (defArgs s_law_draw) (defBody s_law_draw) (defScope s_law_draw) [] [] (He.ga K "_law_draw") fd
  g_law_draw : mg "_law_draw" = some (.ref (He.ga K "_law_draw"))
  d_law_some_value : ∃ fd, FunD K "_law_some_value" "_law_some_value" (defArgs s_law_some_value) (defBody s_law_some_value) (defScope s_law_some_value) [] [] (He.ga K "_law_some_value") fd
  g_law_some_value : mg "_law_some_value" = some (.ref (He.ga K "_law_some_value"))
  d_law_things : ∃ fd, FunD K "_law_things" "_law_things" (defArgs s_law_things) (defBody s_law_things) (defScope s_law_things) [] [] (He.ga K "_law_things") fd
  g_law_things : mg "_law_things" = some (.ref (He.ga K "_law_things"))
  d_law_cell : ∃ fd, FunD K "_law_cell" "_law_cell" (defArgs s_law_cell) (defBody s_law_cell) (defScope s_law_cell) [] [] (He.ga K "_law_cell") fd
  g_law_cell : mg "_law_cell" = some (.ref (He.ga K "_law_cell"))
  d_law_digits : ∃ fd, FunD K "_law_digits" "_law_digits" (defArgs s_law_digits) (defBody s_law_digits) (defScope s_law_digits) [] [] (He.ga K "_law_digits") fd
  g_law_digits : mg "_law_digits" = some (.ref (He.ga K "_law_digits"))
  d_law_same : ∃ fd, FunD K "_law_same" "_law_same" (defArgs s_law_same) (defBody s_law_same) (defScope s_law_same) [] [] (He.ga K "_law_same") fd
  g_law_same : mg "_law_same" = some (.ref (He.ga K "_law_same"))
  d_is_integer : ∃ fd, FunD K "is_integer" "is_integer" (defArgs s_is_integer) (defBody s_is_integer) (defScope s_is_integer) [] [] (He.ga K "is_integer") fd
  g_is_integer : mg "is_integer" = some (.ref (He.ga K "is_integer"))
  d_is_letters : ∃ fd, FunD K "is_letters" "is_letters" (defArgs s_is_letters) (defBody s_is_letters) (defScope s_is_letters) [] [] (He.ga K "is_letters") fd
  g_is_letters : mg "is_letters" = some (.ref (He.ga K "is_letters"))
  d_is_text : ∃ fd, FunD K "is_text" "is_text" (defArgs s_is_text) (defBody s_is_text) (defScope s_is_text) [] [] (He.ga K "is_text") fd
  g_is_text : mg "is_text" = some (.ref (He.ga K "is_text"))
  d_is_value : ∃ fd, FunD K "is_value" "is_value" (defArgs s_is_value) (defBody s_is_value) (defScope s_is_value) [] [] (He.ga K "is_value") fd
  g_is_value : mg "is_value" = some (.ref (He.ga K "is_value"))
  d_is_base : ∃ fd, FunD K "is_base" "is_base" (defArgs s_is_base) (defBody s_is_base) (defScope s_is_base) [] [] (He.ga K "is_base") fd
  g_is_base : mg "is_base" = some (.ref (He.ga K "is_base"))
  d_law_before : ∃ fd, FunD K "_law_before" "_law_before" (defArgs s_law_before) (defBody s_law_before) (defScope s_law_before) [] [] (He.ga K "_law_before") fd
  g_law_before : mg "_law_before" = some (.ref (He.ga K "_law_before"))
  d_has_kind : ∃ fd, FunD K "has_kind" "has_kind" (defArgs s_has_kind) (defBody s_has_kind) (defScope s_has_kind) [] [] (He.ga K "has_kind") fd
  g_has_kind : mg "has_kind" = some (.ref (He.ga K "has_kind"))
  d_key_of : ∃ fd, FunD K "key_of" "key_of" (defArgs s_key_of) (defBody s_key_of) (defScope s_key_of) [] [] (He.ga K "key_of") fd
  g_key_of : mg "key_of" = some (.ref (He.ga K "key_of"))
  d_compare : ∃ fd, FunD K "compare" "compare" (defArgs s_compare) (defBody s_compare) (defScope s_compare) [] [] (He.ga K "compare") fd
  g_compare : mg "compare" = some (.ref (He.ga K "compare"))
  d_law : ∃ fd, FunD K "law" "law" (defArgs s_law) (defBody s_law) (defScope s_law) [] [] (He.ga K "law") fd
  g_law : mg "law" = some (.ref (He.ga K "law"))
  k_LEAST_BASE : ∃ t, mg "LEAST_BASE" = some (.int (-9999) t)
  k_GREATEST_BASE : ∃ t, mg "GREATEST_BASE" = some (.int (9999) t)
  k_LONGEST_BASE : ∃ t, mg "LONGEST_BASE" = some (.int (6) t)
  b_len : mg "len" = none
  b_int : mg "int" = none
  b_range : mg "range" = none
  b_repr : mg "repr" = none
  b_isinstance : mg "isinstance" = none
  b_bool : mg "bool" = none
  b_all : mg "all" = none
  b_str : mg "str" = none
  b_min : mg "min" = none
theorem tx_of {w : World} {h : Heap} {K : PySem.W.Frag} {mg : Str → Option Value} (X : K.In h) (G : h.Ns mainGlobals mg) (c : He.SaysX fas fns [] tfs exs w h K) : Tx K mg :=
  ⟨(c.t.d.defs (d := d_law_draw) (by simp [fns])),
   (He.glo_ok X G (c.t.d.facts (f := .glo "_law_draw") (by simp [fas]))),
   (c.t.d.defs (d := d_law_some_value) (by simp [fns])),
   (He.glo_ok X G (c.t.d.facts (f := .glo "_law_some_value") (by simp [fas]))),
   (c.t.d.defs (d := d_law_things) (by simp [fns])),
   (He.glo_ok X G (c.t.d.facts (f := .glo "_law_things") (by simp [fas]))),
   (c.t.d.defs (d := d_law_cell) (by simp [fns])),
   (He.glo_ok X G (c.t.d.facts (f := .glo "_law_cell") (by simp [fas]))),
   (c.t.d.defs (d := d_law_digits) (by simp [fns])),
   (He.glo_ok X G (c.t.d.facts (f := .glo "_law_digits") (by simp [fas]))),
   (c.t.d.defs (d := d_law_same) (by simp [fns])),
   (He.glo_ok X G (c.t.d.facts (f := .glo "_law_same") (by simp [fas]))),
   (c.t.d.defs (d := d_is_integer) (by simp [fns])),
   (He.glo_ok X G (c.t.d.facts (f := .glo "is_integer") (by simp [fas]))),
   (c.t.d.defs (d := d_is_letters) (by simp [fns])),
   (He.glo_ok X G (c.t.d.facts (f := .glo "is_letters") (by simp [fas]))),
   (c.t.d.defs (d := d_is_text) (by simp [fns])),
   (He.glo_ok X G (c.t.d.facts (f := .glo "is_text") (by simp [fas]))),
   (c.t.d.defs (d := d_is_value) (by simp [fns])),
   (He.glo_ok X G (c.t.d.facts (f := .glo "is_value") (by simp [fas]))),
   (c.t.d.defs (d := d_is_base) (by simp [fns])),
   (He.glo_ok X G (c.t.d.facts (f := .glo "is_base") (by simp [fas]))),
   (c.t.d.defs (d := d_law_before) (by simp [fns])),
   (He.glo_ok X G (c.t.d.facts (f := .glo "_law_before") (by simp [fas]))),
   (c.t.d.defs (d := d_has_kind) (by simp [fns])),
   (He.glo_ok X G (c.t.d.facts (f := .glo "has_kind") (by simp [fas]))),
   (c.t.d.defs (d := d_key_of) (by simp [fns])),
   (He.glo_ok X G (c.t.d.facts (f := .glo "key_of") (by simp [fas]))),
   (c.t.d.defs (d := d_compare) (by simp [fns])),
   (He.glo_ok X G (c.t.d.facts (f := .glo "compare") (by simp [fas]))),
   (c.t.d.defs (d := d_law) (by simp [fns])),
   (He.glo_ok X G (c.t.d.facts (f := .glo "law") (by simp [fas]))),
   (He.int_ok X G (c.t.d.facts (f := .int "LEAST_BASE" (-9999)) (by simp [fas]))),
   (He.int_ok X G (c.t.d.facts (f := .int "GREATEST_BASE" (9999)) (by simp [fas]))),
   (He.int_ok X G (c.t.d.facts (f := .int "LONGEST_BASE" (6)) (by simp [fas]))),
   (He.free_ok X G (c.t.d.facts (f := .free "len") (by simp [fas]))),
   (He.free_ok X G (c.t.d.facts (f := .free "int") (by simp [fas]))),
   (He.free_ok X G (c.t.d.facts (f := .free "range") (by simp [fas]))),
   (He.free_ok X G (c.t.d.facts (f := .free "repr") (by simp [fas]))),
   (He.free_ok X G (c.t.d.facts (f := .free "isinstance") (by simp [fas]))),
   (He.free_ok X G (c.t.d.facts (f := .free "bool") (by simp [fas]))),
   (He.free_ok X G (c.t.d.facts (f := .free "all") (by simp [fas]))),
   (He.free_ok X G (c.t.d.facts (f := .free "str") (by simp [fas]))),
   (He.free_ok X G (c.t.d.facts (f := .free "min") (by simp [fas])))⟩
theorem sc_law_draw : FnScope ["box", "many", "at"] ["box", "many"] (defScope s_law_draw) := ⟨rfl, rfl, rfl, by decide +kernel, rfl, by decide +kernel, by decide +kernel⟩
theorem sc_law_some_value : FnScope ["box", "rows"] ["box"] (defScope s_law_some_value) := ⟨rfl, rfl, rfl, by decide +kernel, rfl, by decide +kernel, by decide +kernel⟩
theorem sc_law_things : FnScope ["box"] ["box"] (defScope s_law_things) := ⟨rfl, rfl, rfl, by decide +kernel, rfl, by decide +kernel, by decide +kernel⟩
theorem sc_law_cell : FnScope ["script", "k"] ["script", "k"] (defScope s_law_cell) := ⟨rfl, rfl, rfl, by decide +kernel, rfl, by decide +kernel, by decide +kernel⟩
theorem sc_law_digits : FnScope ["script", "first", "last", "digits", "k", "cell", "turn", "seed"] ["script", "first", "last"] (defScope s_law_digits) := ⟨rfl, rfl, rfl, by decide +kernel, rfl, by decide +kernel, by decide +kernel⟩
theorem sc_law_same : FnScope ["actual", "due"] ["actual", "due"] (defScope s_law_same) := ⟨rfl, rfl, rfl, by decide +kernel, rfl, by decide +kernel, by decide +kernel⟩
theorem sc_is_integer : FnScope ["thing"] ["thing"] (defScope s_is_integer) := ⟨rfl, rfl, rfl, by decide +kernel, rfl, by decide +kernel, by decide +kernel⟩
theorem sc_is_letters : FnScope ["text"] ["text"] (defScope s_is_letters) := ⟨rfl, rfl, rfl, by decide +kernel, rfl, by decide +kernel, by decide +kernel⟩
theorem sc_is_text : FnScope ["thing"] ["thing"] (defScope s_is_text) := ⟨rfl, rfl, rfl, by decide +kernel, rfl, by decide +kernel, by decide +kernel⟩
theorem sc_is_value : FnScope ["thing"] ["thing"] (defScope s_is_value) := ⟨rfl, rfl, rfl, by decide +kernel, rfl, by decide +kernel, by decide +kernel⟩
theorem sc_is_base : FnScope ["thing"] ["thing"] (defScope s_is_base) := ⟨rfl, rfl, rfl, by decide +kernel, rfl, by decide +kernel, by decide +kernel⟩
theorem sc_law_before : FnScope ["one", "other", "kinds", "k", "value"] ["one", "other"] (defScope s_law_before) := ⟨rfl, rfl, rfl, by decide +kernel, rfl, by decide +kernel, by decide +kernel⟩
theorem sc_has_kind : FnScope ["value", "kind"] ["value", "kind"] (defScope s_has_kind) := ⟨rfl, rfl, rfl, by decide +kernel, rfl, by decide +kernel, by decide +kernel⟩
theorem sc_key_of : FnScope ["value"] ["value"] (defScope s_key_of) := ⟨rfl, rfl, rfl, by decide +kernel, rfl, by decide +kernel, by decide +kernel⟩
theorem sc_compare : FnScope ["one", "other", "first", "second"] ["one", "other"] (defScope s_compare) := ⟨rfl, rfl, rfl, by decide +kernel, rfl, by decide +kernel, by decide +kernel⟩
theorem sc_law : FnScope ["script", "box", "rows", "turn", "one", "other", "due", "base", "thing"] ["script"] (defScope s_law) := ⟨rfl, rfl, rfl, by decide +kernel, rfl, by decide +kernel, by decide +kernel⟩
section
variable {P : Program} {w : World} {K : PySem.W.Frag} {mg : Str → Option Value} {base : Heap} {cs : List Addr}
abbrev sp_is_letters (K : PySem.W.Frag) (cs : List Addr) : Sp := spD K cs 1 f_is_letters
theorem ok_is_letters (T : Tx K mg) (TB : TabB base mg (He.cT K ("is_letters", none)).1 (He.cT K ("is_letters", none)).2) (hP : (He.cT K ("is_letters", none)).2 ∈ cs) : Def P w K mg base CX0 "is_letters" 2 ["text"] (sp_is_letters K cs) := by
  obtain ⟨fd, F⟩ := T.d_is_letters
  refine Def.mkG (k := 1) F T.g_is_letters sc_is_letters (fun _ _ _ _ _ _ us hl => match us, hl with | [_], _ => rfl) (fun vs H Q E h => spD_len h) (fun A outer s H vs Q E hr h => ⟨_, PSs.nox (pss_one (ps_ret (pe_allS hr rfl T.b_all bt_all TB rfl (genS_of (by decide +kernel)) (pv 0) (elt_between rfl (by decide +kernel)) (fun _ => rfl)))), ?_⟩)
  obtain ⟨C, I, ds, r, hn, W, i, hd, hf, k⟩ := h
  obtain ⟨v, d, rfl, rfl, hv⟩ := all1 hd hn
  cases hv <;> first | (cases hf; done) | skip
  rename_i x
  cases hf
  refine ⟨_, rfl, x, rfl, W.tabG _ hP _ i, fun H2 t => k _ _ (Xt.tab W (Xt.refl i) hP t) (.bl _)⟩
abbrev sp_is_integer (K : PySem.W.Frag) (cs : List Addr) : Sp := spD K cs 1 f_is_integer
theorem ok_is_integer (T : Tx K mg) : Def P w K mg base CX0 "is_integer" 2 ["thing"] (sp_is_integer K cs) := by
  obtain ⟨fd, F⟩ := T.d_is_integer
  refine Def.mk' (k := 1) F T.g_is_integer sc_is_integer (fun _ _ _ _ _ _ us hl => match us, hl with | [_], _ => rfl) (fun vs H Q E h => spD_len h) (fun cdv A outer s H vs Q E hr h => ⟨_, PSs.nox (pss_one (ps_ret (pe_and (pe_callB call_isD (by rfl) T.b_isinstance bt_isinstance (pa_cons (pv 0) (pa_cons (pe_bltn (v := .ty "int") (by rfl) T.b_int bt_int rfl) pa_nil))) (pe_one (pe_not (pe_callB call_isD (by rfl) T.b_isinstance bt_isinstance (pa_cons (pv 0) (pa_cons (pe_bltn (v := .ty "bool") (by rfl) T.b_bool bt_bool rfl) pa_nil)))))))), ?_⟩)
  obtain ⟨C, I, ds, r, hn, W, i, hd, hf, k⟩ := h
  obtain ⟨v, d, rfl, rfl, hv⟩ := all1 hd hn
  cases hf
  refine at_start (σ' := [some _]) rfl ?_
  try dsimp only [cxOf, Cx.nox]
  walk_at "zz"
  refine r_isD hv ?_
  walk_at "zz"
  refine r_if (fun e => ?_) (fun e => ?_)
  · walk_at "zz"
    refine r_isD hv ?_
    walk_at "zz"
    have e2 : (!isD d "bool") = isInt d := by cases d <;> first | rfl | cases e
    rw [e2]
    exact k _ _ (Xt.refl i) (.bl _)
  · have e2 : false = isInt d := by cases d <;> first | rfl | cases e
    rw [e2]
    exact k _ _ (Xt.refl i) (.bl _)
abbrev sp_is_text (K : PySem.W.Frag) (cs : List Addr) : Sp := spD K cs 1 f_is_text
theorem ok_is_text (T : Tx K mg) (G_is_letters : Def P w K mg base CX0 "is_letters" 2 ["text"] (sp_is_letters K cs)) : Def P w K mg base CX0 "is_text" 3 ["thing"] (sp_is_text K cs) := by
  obtain ⟨fd, F⟩ := T.d_is_text
  refine Def.mk' (k := 2) F T.g_is_text sc_is_text (fun _ _ _ _ _ _ us hl => match us, hl with | [_], _ => rfl) (fun vs H Q E h => spD_len h) (fun cdv A outer s H vs Q E hr h => ⟨_, PSs.nox (pss_one (ps_ret (pe_and (pe_callB call_isD (by rfl) T.b_isinstance bt_isinstance (pa_cons (pv 0) (pa_cons (pe_bltn (v := .ty "str") (by rfl) T.b_str bt_str rfl) pa_nil))) (pe_one (pe_cal G_is_letters (hr.mono (by decide)) rfl (pa_cons (pv 0) pa_nil)))))), ?_⟩)
  obtain ⟨C, I, ds, r, hn, W, i, hd, hf, k⟩ := h
  obtain ⟨v, d, rfl, rfl, hv⟩ := all1 hd hn
  cases hf
  refine at_start (σ' := [some _]) rfl ?_
  try dsimp only [cxOf, Cx.nox]
  walk_at "zz"
  refine r_isD hv ?_
  walk_at "zz"
  refine r_if (fun e => ?_) (fun e => ?_)
  · cases d <;> first | (cases e; done) | skip
    rename_i x
    walk_at "zz"
    refine useB W i (.cons hv .nil) rfl rfl fun H' X => ?_
    walk_at "zz"
    exact k _ _ X (.bl _)
  · have e2 : false = isTxt d := by cases d <;> first | rfl | cases e
    rw [e2]
    exact k _ _ (Xt.refl i) (.bl _)
abbrev sp_is_value (K : PySem.W.Frag) (cs : List Addr) : Sp := spD K cs 1 f_is_value
theorem ok_is_value (T : Tx K mg) (G_is_integer : Def P w K mg base CX0 "is_integer" 2 ["thing"] (sp_is_integer K cs)) (G_is_text : Def P w K mg base CX0 "is_text" 3 ["thing"] (sp_is_text K cs)) : Def P w K mg base CX0 "is_value" 4 ["thing"] (sp_is_value K cs) := by
  obtain ⟨fd, F⟩ := T.d_is_value
  refine Def.mk' (k := 3) F T.g_is_value sc_is_value (fun _ _ _ _ _ _ us hl => match us, hl with | [_], _ => rfl) (fun vs H Q E h => spD_len h) (fun cdv A outer s H vs Q E hr h => ⟨_, PSs.nox (pss_one (ps_ret (pe_or (pe_cmpR op_isG (pv 0) pe_non (nomark _)) (pe_or (pe_cal G_is_integer (hr.mono (by decide)) rfl (pa_cons (pv 0) pa_nil)) (pe_one (pe_cal G_is_text (hr.mono (by decide)) rfl (pa_cons (pv 0) pa_nil))))))), ?_⟩)
  obtain ⟨C, I, ds, r, hn, W, i, hd, hf, k⟩ := h
  obtain ⟨v, d, rfl, rfl, hv⟩ := all1 hd hn
  cases hf
  refine at_start (σ' := [some _]) rfl ?_
  try dsimp only [cxOf, Cx.nox]
  walk_at "zz"
  refine r_if (fun e => ?_) (fun e => ?_)
  · cases of_decide_eq_true e
    cases hv
    exact k _ _ (Xt.refl i) (.bl _)
  · walk_at "zz"
    refine useB W i (.cons hv .nil) rfl rfl fun H1 X1 => ?_
    walk_at "zz"
    refine r_if (fun e2 => ?_) (fun e2 => ?_)
    · have e3 : true = isVal d := by cases d <;> first | rfl | cases e2
      rw [e3]
      exact k _ _ X1 (.bl _)
    · walk_at "zz"
      refine useB W X1.2 (.cons (hv.mono X1.1) .nil) rfl rfl fun H2 X2 => ?_
      have e3 : isTxt d = isVal d := by
        cases hv with
        | non => simp at e
        | int _ => cases e2
        | _ => rfl
      rw [e3]
      exact k _ _ (X1.trans X2) (.bl _)
abbrev sp_is_base (K : PySem.W.Frag) (cs : List Addr) : Sp := spD K cs 1 f_is_base
theorem ok_is_base (T : Tx K mg) (G_is_integer : Def P w K mg base CX0 "is_integer" 2 ["thing"] (sp_is_integer K cs)) (G_is_text : Def P w K mg base CX0 "is_text" 3 ["thing"] (sp_is_text K cs)) : Def P w K mg base CX0 "is_base" 4 ["thing"] (sp_is_base K cs) := by
  obtain ⟨fd, F⟩ := T.d_is_base
  refine Def.mk' (k := 3) F T.g_is_base sc_is_base (fun _ _ _ _ _ _ us hl => match us, hl with | [_], _ => rfl) (fun vs H Q E h => spD_len h) (fun cdv A outer s H vs Q E hr h => ⟨_, PSs.nox (pss_cons (ps_if (pt_val (pe_cal G_is_integer (hr.mono (by decide)) rfl (pa_cons (pv 0) pa_nil))) (pss_one (ps_ret (pe_chain op_leG op_leG (pe_gint rfl T.k_LEAST_BASE) (pv 0) (pe_gint rfl T.k_GREATEST_BASE)))) pss_nil)
      (pss_cons (ps_if (pt_val (pe_cal G_is_text (hr.mono (by decide)) rfl (pa_cons (pv 0) pa_nil))) (pss_one (ps_ret (pe_cmpR op_leG (pe_callB call_lenG (by rfl) T.b_len bt_len (pa_cons (pv 0) pa_nil)) (pe_gint rfl T.k_LONGEST_BASE) (nomark _)))) pss_nil)
      (pss_one (ps_ret (pe_cmpR op_isG (pv 0) pe_non (nomark _)))))), ?_⟩)
  obtain ⟨C, I, ds, r, hn, W, i, hd, hf, k⟩ := h
  obtain ⟨v, d, rfl, rfl, hv⟩ := all1 hd hn
  have hl : lenOk d = true := by
    cases e : lenOk d with
    | true => rfl
    | false => simp [f_is_base, e] at hf
  simp only [f_is_base, hl, if_true, Option.some.injEq] at hf
  subst hf
  refine at_start (σ' := [some _]) rfl ?_
  try dsimp only [cxOf, Cx.nox]
  walk_at "zz"
  refine useB W i (.cons hv .nil) rfl rfl fun H1 X1 => ?_
  walk_at "zz"
  refine r_if (fun e => ?_) (fun e => ?_)
  · cases d <;> first | (cases e; done) | skip
    cases hv.eq_int
    rename_i z
    walk_at "zz"
    refine r_if (fun e2 => ?_) (fun e2 => ?_)
    · walk_at "zz"
      have e3 : decide (z ≤ 9999) = isBase (.int z) := by
        show _ = (decide (-9999 ≤ z) && _)
        rw [e2]
        rfl
      rw [e3]
      exact k _ _ X1 (.bl _)
    · have e3 : false = isBase (.int z) := by
        show _ = (decide (-9999 ≤ z) && _)
        rw [e2]
        rfl
      rw [e3]
      exact k _ _ X1 (.bl _)
  · walk_at "zz"
    refine useB W X1.2 (.cons (hv.mono X1.1) .nil) rfl rfl fun H2 X2 => ?_
    walk_at "zz"
    refine r_if (fun e2 => ?_) (fun e2 => ?_)
    · cases d <;> first | (cases e2; done) | skip
      cases hv.eq_str
      rename_i x
      walk_at "zz"
      refine r_lenS (of_decide_eq_true hl) ?_
      walk_at "zz"
      have e3 : decide ((x.length : Int) ≤ 6) = isBase (.str x) := by
        show _ = (azS x && decide (x.length ≤ 6))
        rw [show azS x = true from e2]
        by_cases z : x.length ≤ 6
        · rw [decide_eq_true z, decide_eq_true (by omega)] <;> rfl
        · rw [decide_eq_false z, decide_eq_false (by omega)] <;> rfl
      rw [e3]
      exact k _ _ (X1.trans X2) (.bl _)
    · walk_at "zz"
      have e3 : decide (v = .non) = isBase d := by
        cases hv with
        | non => rfl
        | int _ => cases e
        | str x => 
          have e4 : azS x = false := e2
          simp [isBase, e4]
        | _ => rfl
      rw [e3]
      exact k _ _ (X1.trans X2) (.bl _)
abbrev sp_has_kind (K : PySem.W.Frag) (cs : List Addr) : Sp := spD K cs 2 f_has_kind
theorem ok_has_kind (T : Tx K mg) (G_is_text : Def P w K mg base CX0 "is_text" 3 ["thing"] (sp_is_text K cs)) (G_is_integer : Def P w K mg base CX0 "is_integer" 2 ["thing"] (sp_is_integer K cs)) : Def P w K mg base CX0 "has_kind" 4 ["value", "kind"] (sp_has_kind K cs) := by
  obtain ⟨fd, F⟩ := T.d_has_kind
  refine Def.mk' (k := 3) F T.g_has_kind sc_has_kind (fun _ _ _ _ _ _ us hl => match us, hl with | [_, _], _ => rfl) (fun vs H Q E h => spD_len h) (fun cdv A outer s H vs Q E hr h => ⟨_, PSs.nox (pss_cons (ps_if (pt_cmpR op_isG (pv 0) pe_non (nomark _)) (pss_one (ps_ret pe_bl)) pss_nil)
      (pss_cons (ps_if (pt_cmpR (op_eqG hr.units) (pv 1) pe_str (nomark _)) (pss_one (ps_ret (pe_cal G_is_integer (hr.mono (by decide)) rfl (pa_cons (pv 0) pa_nil)))) pss_nil)
      (pss_one (ps_ret (pe_cal G_is_text (hr.mono (by decide)) rfl (pa_cons (pv 0) pa_nil)))))), ?_⟩)
  obtain ⟨C, I, ds, r, hn, W, i, hd, hf, k⟩ := h
  obtain ⟨v, v2, d, d2, rfl, rfl, hv, hv2⟩ := all2 hd hn
  cases hv2 <;> first | (cases hf; done) | skip
  rename_i x
  cases hf
  refine at_start (σ' := [some _, some _]) rfl ?_
  try dsimp only [cxOf, Cx.nox]
  walk_at "zz"
  refine r_if (fun e => ?_) (fun e => ?_)
  · cases of_decide_eq_true e
    cases hv
    walk_at "zz"
    exact k _ _ (Xt.refl i) (.bl _)
  · walk_at "zz"
    refine r_if (fun e2 => ?_) (fun e2 => ?_)
    · walk_at "zz"
      refine useB W i (.cons hv .nil) rfl rfl fun H1 X1 => ?_
      have e3 : isInt d = hasKind d x := by
        have e4 := of_decide_eq_true e2
        subst e4
        cases hv <;> first | rfl | (simp at e)
      rw [e3]
      exact k _ _ X1 (.bl _)
    · walk_at "zz"
      refine useB W i (.cons hv .nil) rfl rfl fun H1 X1 => ?_
      have e3 : isTxt d = hasKind d x := by
        have e4 := of_decide_eq_false e2
        cases hv <;> first | (simp at e; done) | (simp only [hasKind]; rw [if_neg e4])
      rw [e3]
      exact k _ _ X1 (.bl _)
abbrev sp_key_of (K : PySem.W.Frag) (cs : List Addr) : Sp := spD K cs 1 f_key_of
theorem ok_key_of (T : Tx K mg) (G_is_integer : Def P w K mg base CX0 "is_integer" 2 ["thing"] (sp_is_integer K cs)) : Def P w K mg base CX0 "key_of" 3 ["value"] (sp_key_of K cs) := by
  obtain ⟨fd, F⟩ := T.d_key_of
  refine Def.mk' (k := 2) F T.g_key_of sc_key_of (fun _ _ _ _ _ _ us hl => match us, hl with | [_], _ => rfl) (fun vs H Q E h => spD_len h) (fun cdv A outer s H vs Q E hr h => ⟨_, PSs.nox (pss_cons (ps_if (pt_cmpR op_isG (pv 0) pe_non (nomark _)) (pss_one (ps_ret (pe_tup (pa_cons pe_int pa_nil)))) pss_nil)
      (pss_cons (ps_if (pt_val (pe_cal G_is_integer (hr.mono (by decide)) rfl (pa_cons (pv 0) pa_nil))) (pss_one (ps_ret (pe_tup (pa_cons pe_int (pa_cons (pv 0) pa_nil))))) pss_nil)
      (pss_one (ps_ret (pe_tup (pa_cons pe_int (pa_cons (pv 0) pa_nil))))))), ?_⟩)
  obtain ⟨C, I, ds, r, hn, W, i, hd, hf, k⟩ := h
  obtain ⟨v, d, rfl, rfl, hv⟩ := all1 hd hn
  have hl : cmpOk d = true := by
    cases e : cmpOk d with
    | true => rfl
    | false => simp [f_key_of, e] at hf
  simp only [f_key_of, hl, if_true, Option.some.injEq] at hf
  subst hf
  refine at_start (σ' := [some _]) rfl ?_
  try dsimp only [cxOf, Cx.nox]
  walk_at "zz"
  refine r_if (fun e => ?_) (fun e => ?_)
  · cases of_decide_eq_true e
    cases hv
    walk_at "zz"
    exact newT W i (.cons (.int _) .nil) rfl fun p H' _ _ X t => k _ _ X t
  · walk_at "zz"
    refine useB W i (.cons hv .nil) rfl rfl fun H1 X1 => ?_
    walk_at "zz"
    refine r_if (fun e2 => ?_) (fun e2 => ?_)
    · cases d <;> first | (cases e2; done) | skip
      walk_at "zz"
      exact newT W X1.2 (.cons (.int _) (.cons (hv.mono X1.1) .nil)) rfl fun p H' _ _ X t => k _ _ (X1.trans X) t
    · walk_at "zz"
      have e3 : keyD d = .tuple [.int 2, d] := by
        cases hv <;> first | rfl | (cases e2; done) | (simp at e)
      rw [e3] at k
      exact newT W X1.2 (.cons (.int _) (.cons (hv.mono X1.1) .nil)) rfl fun p H' _ _ X t => k _ _ (X1.trans X) t
abbrev sp_compare (K : PySem.W.Frag) (cs : List Addr) : Sp := spD K cs 2 f_compare
theorem ok_compare (T : Tx K mg) (G_key_of : Def P w K mg base CX0 "key_of" 3 ["value"] (sp_key_of K cs)) : Def P w K mg base CX0 "compare" 4 ["one", "other"] (sp_compare K cs) := by
  obtain ⟨fd, F⟩ := T.d_compare
  refine Def.mk' (k := 3) F T.g_compare sc_compare (fun _ _ _ _ _ _ us hl => match us, hl with | [_, _], _ => rfl) (fun vs H Q E h => spD_len h) (fun cdv A outer s H vs Q E hr h => ⟨_, PSs.nox (pss_cons (ps_set (i := 2) sc_compare.nd rfl (Or.inl rfl) (pe_cal G_key_of (hr.mono (by decide)) rfl (pa_cons (pv 0) pa_nil)))
      (pss_cons (ps_set (i := 3) sc_compare.nd rfl (Or.inl rfl) (pe_cal G_key_of (hr.mono (by decide)) rfl (pa_cons (pv 1) pa_nil)))
      (pss_cons (ps_if (pt_cmpR (op_eqG hr.units) (pv 2) (pv 3) (nomark _)) (pss_one (ps_ret pe_int)) pss_nil)
      (pss_one (ps_ret (pe_ifExp (pt_cmpR (op_ltG hr.units0) (pv 2) (pv 3) (nomark _)) (pe_un un_neg pe_int) pe_int)))))), ?_⟩)
  obtain ⟨C, I, ds, r, hn, W, i, hd, hf, k⟩ := h
  obtain ⟨v, v2, d, d2, rfl, rfl, hv, hv2⟩ := all2 hd hn
  have hl : cmpOk d = true ∧ cmpOk d2 = true := by
    by_cases e : cmpOk d = true ∧ cmpOk d2 = true
    · exact e
    · rw [show f_compare [d, d2] = none from if_neg e] at hf
      cases hf
  obtain ⟨l1, l2⟩ := hl
  simp only [f_compare, l1, l2, and_self, if_true, Option.some.injEq] at hf
  subst hf
  refine at_start (σ' := [some _, some _, none, none]) rfl ?_
  try dsimp only [cxOf, Cx.nox]
  walk_at "zz"
  refine spD_use W i (.cons hv .nil) (by simp [f_key_of, l1]; rfl) rfl fun k1 H1 X1 h1 => ?_
  walk_at "zz"
  refine spD_use W X1.2 (.cons (hv2.mono X1.1) .nil) (by simp [f_key_of, l2]; rfl) rfl fun k2 H2 X2 h2 => ?_
  walk_at "zz"
  have h1 := h1.mono X2.1
  refine r_eqD h1.dp h2.dp (shaped_key l1) (shaped_key l2) ?_
  walk_at "zz"
  rw [eqv_key l1 l2]
  refine r_if (fun e => ?_) (fun e => ?_)
  · walk_at "zz"
    have e3 : cmpD d d2 = 0 := if_pos e
    rw [e3] at k
    exact k _ _ (X1.trans X2) (.int _)
  · obtain ⟨a1, rfl, t1⟩ := key_at l1 h1
    obtain ⟨a2, rfl, t2⟩ := key_at l2 h2
    walk_at "zz"
    refine r_ltF t1.sq t2.sq (keyV_flat l1) (keyV_flat l2) (keyV_ok l1 l2) ?_
    walk_at "zz"
    rw [keyV_lt l1 l2]
    refine r_if (fun e2 => ?_) (fun e2 => ?_)
    · walk_at "zz"
      have e3 : cmpD d d2 = -1 := by
        unfold cmpD
        rw [e, e2]
        rfl
      rw [e3] at k
      exact k _ _ (X1.trans X2) (.int _)
    · walk_at "zz"
      have e3 : cmpD d d2 = 1 := by
        unfold cmpD
        rw [e, e2]
        rfl
      rw [e3] at k
      exact k _ _ (X1.trans X2) (.int _)
end
end Z
namespace Z
open PySem PySem.Spec PyProof.Rows L2 GxR
section
variable {P : Program} {w : World} {K : PySem.W.Frag} {mg : Str → Option Value} {base : Heap} {cs : List Addr}
/-- script[k] or 0 -/
def spCellZ (K : PySem.W.Frag) : Sp := fun vs H Q _ => ∃ (a : Addr) (ns : List Int) (i : Int), vs = [.ref a, .int i] ∧ 0 ≤ i ∧ SqL K H a (ns.map V.int) ∧ ns.length ≤ 1000 ∧ ∀ z : Int, Q (.int z) H
theorem spCellZ_len {vs : List V} {H : Hp} {Q : VK} {E : XK} (h : spCellZ K vs H Q E) : vs.length = 2 := by
  obtain ⟨_, _, _, rfl, _⟩ := h
  rfl
abbrev sp_law_cell (K : PySem.W.Frag) (cs : List Addr) : Sp := spCellZ K
theorem ok_law_cell (T : Tx K mg) : Def P w K mg base CX0 "_law_cell" 2 ["script", "k"] (sp_law_cell K cs) := by
  obtain ⟨fd, F⟩ := T.d_law_cell
  refine Def.mk' (k := 1) F T.g_law_cell sc_law_cell (fun _ _ _ _ _ _ us hl => match us, hl with | [_, _], _ => rfl) (fun vs H Q E h => spCellZ_len h) (fun cdv A outer s H vs Q E hr h => ⟨_, PSs.nox (pss_cons (ps_if (pt_cmpR (op_ltG hr.units0) (pv 1) (pe_callB call_lenG (by rfl) T.b_len bt_len (pa_cons (pv 0) pa_nil)) (nomark _)) (pss_one (ps_ret (pe_ix ix_seq (pv 0) (pv 1) (fun _ _ => rfl)))) pss_nil)
      (pss_one (ps_ret pe_int))), ?_⟩)
  obtain ⟨a, ns, j, rfl, hj, hs, hl, k⟩ := h
  obtain ⟨n, rfl⟩ : ∃ n : Nat, j = (n : Int) := ⟨j.toNat, by omega⟩
  refine at_start (σ' := [some _, some _]) rfl ?_
  try dsimp only [cxOf, Cx.nox]
  walk_at "zz"
  refine r_lenL hs ?_
  walk_at "zz"
  refine r_if (fun e => ?_) (fun e => ?_)
  · have e2 := of_decide_eq_true e
    rw [List.length_map] at e2
    have hk : n < ns.length := by omega
    walk_at "zz"
    exact r_ixL hs (v := .int (ns[n])) (atI_nat (by simp [hk])) (k _)
  · walk_at "zz"
    exact k _
/-- the digits: a new list of ints from 0 on -/
def spDigits (K : PySem.W.Frag) (cs : List Addr) : Sp := fun vs H Q _ => ∃ (C : Addr → Prop) (I : Hp → Prop) (a : Addr) (ns : List Int) (lo hi : Nat), vs = [.ref a, .int lo, .int hi] ∧ lo ≤ hi ∧ hi ≤ 100 ∧ Wd cs C I ∧ I H ∧ StL K C H a (ns.map V.int) ∧ ns.length ≤ 1000 ∧
  ∀ (p : Addr) (ms : List Int) (H' : Hp), H p = none → ¬ C p → Xt C I H H' → H' p = some (.lst (ms.map V.int)) → (∀ m ∈ ms, 0 ≤ m) → Q (.ref p) H'
theorem spDigits_len {vs : List V} {H : Hp} {Q : VK} {E : XK} (h : spDigits K cs vs H Q E) : vs.length = 3 := by
  obtain ⟨_, _, _, _, _, _, rfl, _⟩ := h
  rfl
theorem nn_app {ms : List Int} {z : Int} (h : ∀ m ∈ ms, 0 ≤ m) : ∀ m ∈ ms ++ [z % 1000], 0 ≤ m := fun m hm => by
  rcases List.mem_append.mp hm with q | q
  · exact h m q
  · rw [List.mem_singleton.mp q]
    exact Int.emod_nonneg _ (by decide)
abbrev sp_law_digits (K : PySem.W.Frag) (cs : List Addr) : Sp := spDigits K cs
theorem ok_law_digits (T : Tx K mg) (G_law_cell : Def P w K mg base CX0 "_law_cell" 2 ["script", "k"] (sp_law_cell K cs)) : Def P w K mg base CX0 "_law_digits" 3 ["script", "first", "last"] (sp_law_digits K cs) := by
  obtain ⟨fd, F⟩ := T.d_law_digits
  refine Def.mk' (k := 2) F T.g_law_digits sc_law_digits (fun _ _ _ _ _ _ us hl => match us, hl with | [_, _, _], _ => rfl) (fun vs H Q E h => spDigits_len h) (fun cdv A outer s H vs Q E hr h => ⟨_, PSs.nox (pss_cons (ps_set (i := 3) sc_law_digits.nd rfl (Or.inl rfl) (pe_lst pa_nil))
      (pss_cons (ps_for PassesOwn.never rfl (pi_range2 (by rfl) T.b_range (pa_cons (pv 1) (pa_cons (pv 2) pa_nil))) (pg_name (i := 4) sc_law_digits.nd rfl (Or.inl rfl)) (pss_cons (ps_set (i := 5) sc_law_digits.nd rfl (Or.inl rfl) (pe_cal G_law_cell (hr.mono (by decide)) rfl (pa_cons (pv 0) (pa_cons (pv 4) pa_nil))))
      (pss_cons (ps_if (pt_cmpR (op_ltG hr.units0) (pv 5) pe_int (nomark _)) (pss_one (ps_set (i := 5) sc_law_digits.nd rfl (Or.inl rfl) (pe_op op_subG pe_int (pe_op op_mulG pe_int (pv 5))))) pss_nil)
      (pss_one (ps_if (pt_cmpR op_geG (pv 5) (pe_op op_powG pe_int pe_int) (nomark _)) (pss_one (ps_for PassesOwn.never rfl (pi_range1 (by rfl) T.b_range (pa_cons pe_int pa_nil)) (pg_name (i := 6) sc_law_digits.nd rfl (Or.inl rfl)) (pss_one (ps_if (pt_cmpR op_gtG (pv 5) pe_int (nomark _)) (pss_cons (ps_expr (pe_bm PySem.F.plainAttrs_list PySem.F.slot_list_append PySem.F.type_list_append mt_append (pv 3) (pa_cons (pe_op op_modG (pe_callTy call_intG (by rfl) T.b_int bt_int (pa_cons (pv 5) pa_nil)) pe_int) pa_nil)))
      (pss_one (ps_set (i := 5) sc_law_digits.nd rfl (Or.inl rfl) (pe_op op_divG (pv 5) pe_int)))) pss_nil)))) (pss_cons (ps_set (i := 7) sc_law_digits.nd rfl (Or.inl rfl) (pe_op op_modG (pe_callTy call_intG (by rfl) T.b_int bt_int (pa_cons (pe_op op_addG (pe_op op_addG (pe_op op_mulG (pv 5) pe_int) (pe_op op_mulG (pv 4) pe_int)) pe_int) pa_nil)) pe_int))
      (pss_one (ps_for PassesOwn.never rfl (pi_range1 (by rfl) T.b_range (pa_cons pe_int pa_nil)) (pg_name (i := 6) sc_law_digits.nd rfl (Or.inl rfl)) (pss_cons (ps_set (i := 7) sc_law_digits.nd rfl (Or.inl rfl) (pe_op op_modG (pe_callTy call_intG (by rfl) T.b_int bt_int (pa_cons (pe_op op_addG (pe_op op_addG (pe_op op_mulG (pv 7) pe_int) (pe_op op_mulG pe_int (pv 6))) pe_int) pa_nil)) pe_int))
      (pss_one (ps_expr (pe_bm PySem.F.plainAttrs_list PySem.F.slot_list_append PySem.F.type_list_append mt_append (pv 3) (pa_cons (pe_op op_modG (pe_callTy call_intG (by rfl) T.b_int bt_int (pa_cons (pe_op op_divG (pv 7) pe_int) pa_nil)) pe_int) pa_nil)))))))))))))
      (pss_one (ps_ret (pv 3))))), ?_⟩)
  obtain ⟨C, I, a, ns, lo, hi, rfl, hlh, h100, W, i, hs, hl, k⟩ := h
  refine at_start (σ' := [some _, some _, some _, none, none, none, none, none]) rfl ?_
  try dsimp only [cxOf, Cx.nox]
  walk_at "zz"
  refine ⟨sz_lit rfl, fun p hp => ?_⟩
  have np := W.new i hp
  have X0 : Xt C I H (upd H p (.lst [])) := (Xt.refl i).put W hp
  walk_at "zz"
  refine l_rng2 (m := hi - lo) (by omega) (by omega) (fun n σ' H' => ∃ (ms : List Int) (v4 v5 v6 v7 : Option V), σ' = [some (.ref a), some (.int lo), some (.int hi), some (.ref p), v4, v5, v6, v7] ∧ Xt C I H H' ∧ H' p = some (.lst (ms.map V.int)) ∧ ms.length ≤ 60 * n ∧ ∀ m ∈ ms, 0 ≤ m)
    ⟨[], none, none, none, none, rfl, X0, upd_same, Nat.le_refl _, fun m hm => by cases hm⟩ ?_ ?_
  · rintro n σ' H' hn ⟨ms, v4, v5, v6, v7, rfl, X, hp', hlen, hnn⟩
    walk_at "zz"
    refine ⟨a, ns, _, rfl, by omega, (hs.mono X.1).sq, hl, fun z => ?_⟩
    walk_at "zz"
    refine r_if (fun e => ?_) (fun e => ?_)
    all_goals walk_at "zz"
    all_goals first
      | (refine r_mul (Or.inl ⟨by decide, by decide⟩) ?_
         walk_at "zz"
         generalize 1 - 2 * z = c)
      | generalize z = c
    all_goals
      refine r_pow ⟨by decide, by decide, by decide⟩ ?_
      walk_at "zz"
      refine r_if (fun e2 => ?_) (fun e2 => ?_)
      · -- the digits of a great cell
        walk_at "zz"
        refine l_rng1 (m := 60) rfl (by decide) (fun m σ' H' => ∃ (ms : List Int) (c : Int) (v6 : Option V), σ' = [some (.ref a), some (.int lo), some (.int hi), some (.ref p), some (.int (lo + (n : Int))), some (.int c), v6, v7] ∧ Xt C I H H' ∧ H' p = some (.lst (ms.map V.int)) ∧ ms.length ≤ 60 * n + m ∧ ∀ m ∈ ms, 0 ≤ m)
          ⟨ms, c, v6, rfl, X, hp', hlen, hnn⟩ ?_ ?_
        · rintro m σ' H2 hm ⟨ms, c, v6, rfl, X, hp', hlen, hnn⟩
          walk_at "zz"
          refine r_if (fun e3 => ?_) (fun e3 => ?_)
          · walk_at "zz"
            refine ⟨ty_list (.inl (.inl hp')), ?_⟩
            walk_at "zz"
            refine r_mod (by decide) ?_
            walk_at "zz"
            refine r_app hp' (by rw [List.length_map]; omega) ?_
            walk_at "zz"
            refine r_div ⟨by decide, by decide⟩ ?_
            walk_at "zz"
            exact ⟨ms ++ [c % 1000], _, _, rfl, X.mut W hp np, by rw [upd_same, List.map_append]; rfl, by rw [List.length_append]; show _ + 1 ≤ _; omega, nn_app hnn⟩
          · walk_at "zz"
            exact ⟨ms, c, _, rfl, X, hp', by omega, hnn⟩
        · rintro σ' H2 ⟨ms, c, v6, rfl, X, hp', hlen, hnn⟩
          exact ⟨ms, _, _, _, _, rfl, X, hp', by omega, hnn⟩
      · walk_at "zz"
        refine r_mul (Or.inr ⟨by decide, by decide⟩) ?_
        walk_at "zz"
        refine r_mul (Or.inr ⟨by decide, by decide⟩) ?_
        walk_at "zz"
        refine r_mod (by decide) ?_
        walk_at "zz"
        refine l_rng1 (m := 12) rfl (by decide) (fun m σ' H' => ∃ (ms : List Int) (y : Int) (v6 : Option V), σ' = [some (.ref a), some (.int lo), some (.int hi), some (.ref p), some (.int (lo + (n : Int))), some (.int c), v6, some (.int y)] ∧ Xt C I H H' ∧ H' p = some (.lst (ms.map V.int)) ∧ ms.length ≤ 60 * n + m ∧ ∀ m ∈ ms, 0 ≤ m)
          ⟨ms, _, v6, rfl, X, hp', hlen, hnn⟩ ?_ ?_
        · rintro m σ' H2 hm ⟨ms, y, v6, rfl, X, hp', hlen, hnn⟩
          walk_at "zz"
          refine r_mul (Or.inr ⟨by decide, by decide⟩) ?_
          walk_at "zz"
          refine r_mul (Or.inl ⟨by decide, by decide⟩) ?_
          walk_at "zz"
          refine r_mod (by decide) ?_
          walk_at "zz"
          refine ⟨ty_list (.inl (.inl hp')), ?_⟩
          walk_at "zz"
          refine r_div ⟨by decide, by decide⟩ ?_
          walk_at "zz"
          refine r_mod (by decide) ?_
          walk_at "zz"
          refine r_app hp' (by rw [List.length_map]; omega) ?_
          walk_at "zz"
          exact ⟨ms ++ [_ % 1000], _, _, rfl, X.mut W hp np, by rw [upd_same, List.map_append]; rfl, by rw [List.length_append]; show _ + 1 ≤ _; omega, nn_app hnn⟩
        · rintro σ' H2 ⟨ms, y, v6, rfl, X, hp', hlen, hnn⟩
          exact ⟨ms, _, _, _, _, rfl, X, hp', by omega, hnn⟩
  · rintro σ' H' ⟨ms, v4, v5, v6, v7, rfl, X, hp', hlen, hnn⟩
    walk_at "zz"
    exact k p ms H' hp np X hp' hnn
abbrev sp_law_draw (K : PySem.W.Frag) (cs : List Addr) : Sp := spDraw cs
theorem ok_law_draw (T : Tx K mg) : Def P w K mg base CX0 "_law_draw" 2 ["box", "many"] (sp_law_draw K cs) := by
  obtain ⟨fd, F⟩ := T.d_law_draw
  refine Def.mk' (k := 1) F T.g_law_draw sc_law_draw (fun _ _ _ _ _ _ us hl => match us, hl with | [_, _], _ => rfl) (fun vs H Q E h => spDraw_len h) (fun cdv A outer s H vs Q E hr h => ⟨_, PSs.nox (pss_cons (ps_set (i := 2) sc_law_draw.nd rfl (Or.inl rfl) (pe_ix ix_seq (pv 0) pe_int (fun _ _ => rfl)))
      (pss_cons (ps_asg (pe_op op_addG (pv 2) pe_int) (pg_sub (pv 0) pe_int set_list))
      (pss_cons (ps_if (pt_cmpR (op_ltG hr.units0) (pv 2) (pe_callB call_lenG (by rfl) T.b_len bt_len (pa_cons (pe_ix ix_seq (pv 0) pe_int (fun _ _ => rfl)) pa_nil)) (nomark _)) (pss_one (ps_ret (pe_op op_modG (pe_callTy call_intG (by rfl) T.b_int bt_int (pa_cons (pe_ix ix_seq (pe_ix ix_seq (pv 0) pe_int (fun _ _ => rfl)) (pv 2) (fun _ _ => rfl)) pa_nil)) (pv 1)))) pss_nil)
      (pss_one (ps_ret (pe_op op_modG (pe_callTy call_intG (by rfl) T.b_int bt_int (pa_cons (pe_op op_addG (pe_op op_mulG (pv 2) pe_int) pe_int) pa_nil)) (pv 1))))))), ?_⟩)
  obtain ⟨C, I, b, d, many, rfl, hm, W, i, B, k⟩ := h
  obtain ⟨n, ms, hb, hd, hnn⟩ := B.box H i
  refine at_start (σ' := [some _, some _, none]) rfl ?_
  try dsimp only [cxOf, Cx.nox]
  walk_at "zz"
  refine r_ixL (SqL.of hb) (v := .int n) rfl ?_
  walk_at "zz"
  refine r_setL hb (n := 1) rfl (by show 1 < 2; decide) ?_
  walk_at "zz"
  have X := B.xt i (n + 1)
  have e : upd H b (.lst ([V.ref d, V.int n].set 1 (V.int ((n : Int) + 1)))) = upd H b (.lst [.ref d, .int ((n + 1 : Nat) : Int)]) := rfl
  rw [e]
  have hd2 : upd H b (.lst [.ref d, .int ((n + 1 : Nat) : Int)]) d = some (.lst (ms.map V.int)) := by
    obtain ⟨n', ms', h1, h2, _⟩ := B.box _ X.2
    have ne : d ≠ b := fun z => by
      rw [z, upd_same] at h2
      have q := Option.some.inj h2
      injection q with q
      cases ms' with
      | nil => cases q
      | cons x xs =>
        injection q with q _
        cases q
    rw [upd_ne ne]
    exact hd
  refine r_ixL (SqL.of upd_same) (v := .ref d) rfl ?_
  walk_at "zz"
  refine r_lenL (SqL.of hd2) ?_
  walk_at "zz"
  refine r_if (fun e => ?_) (fun e => ?_)
  · have e2 := of_decide_eq_true e
    rw [List.length_map] at e2
    have hn : n < ms.length := by omega
    walk_at "zz"
    refine r_ixL (SqL.of upd_same) (v := .ref d) rfl ?_
    walk_at "zz"
    refine r_ixL (SqL.of hd2) (v := .int (ms[n])) (atI_nat (by simp [hn])) ?_
    walk_at "zz"
    refine r_mod hm ?_
    exact k _ _ (Int.emod_nonneg _ (by omega)) (Int.emod_lt_of_pos _ hm) X
  · walk_at "zz"
    refine r_mul (Or.inr ⟨by decide, by decide⟩) ?_
    walk_at "zz"
    refine r_mod hm ?_
    exact k _ _ (Int.emod_nonneg _ (by omega)) (Int.emod_lt_of_pos _ hm) X
abbrev sp_law_same (K : PySem.W.Frag) (cs : List Addr) : Sp := spSame
theorem ok_law_same (T : Tx K mg) : Def P w K mg base CX0 "_law_same" 2 ["actual", "due"] (sp_law_same K cs) := by
  obtain ⟨fd, F⟩ := T.d_law_same
  refine Def.mk' (k := 1) F T.g_law_same sc_law_same (fun _ _ _ _ _ _ us hl => match us, hl with | [_, _], _ => rfl) (fun vs H Q E h => spSame_len h) (fun cdv A outer s H vs Q E hr h => ⟨_, PSs.nox (pss_one (ps_ret (pe_cmpR (op_eqG hr.units) (pe_callB call_reprF (by rfl) T.b_repr bt_repr (pa_cons (pv 0) pa_nil)) (pe_callB call_reprF (by rfl) T.b_repr bt_repr (pa_cons (pv 1) pa_nil)) (nomark _)))), ?_⟩)
  obtain ⟨d, rfl, f, sh, sz, k⟩ := h
  refine at_start (σ' := [some _, some _]) rfl ?_
  try dsimp only [cxOf, Cx.nox]
  walk_at "zz"
  refine ⟨_, d, rfl, f, rfl, sh, sz, ?_⟩
  walk_at "zz"
  refine ⟨_, d, rfl, f, rfl, sh, sz, ?_⟩
  walk_at "zz"
  rw [decide_eq_true rfl]
  exact k
/-- the law's seventeen values -/
def spSome (K : PySem.W.Frag) (cs : List Addr) : Sp := fun vs H Q _ => ∃ (C : Addr → Prop) (I : Hp → Prop) (b d : Addr), vs = [.ref b] ∧ Wd cs C I ∧ I H ∧ Bx C I b d ∧
  ∀ (p : Addr) (ds : List PyData) (H' : Hp), ¬ C p → H' p = some (.lst (ds.map valD)) → ds.length = 17 → (∀ x ∈ ds, goodD x = true) → Xt C I H H' → Q (.ref p) H'
theorem spSome_len {vs : List V} {H : Hp} {Q : VK} {E : XK} (h : spSome K cs vs H Q E) : vs.length = 1 := by
  obtain ⟨_, _, _, _, rfl, _⟩ := h
  rfl
def someD : List PyData := [.none, .int 0, .int (-1), .int 9999, .int 10000, .int (-9999), .int (-10000), .int 123456789, .str "", .str "a", .str "ab", .str "b", .str "abcdef", .str "abcdefg", .str "z"]
theorem someD_good : someD.all goodD = true := by decide +kernel
abbrev sp_law_some_value (K : PySem.W.Frag) (cs : List Addr) : Sp := spSome K cs
theorem ok_law_some_value (T : Tx K mg) (G_law_draw : Def P w K mg base CX0 "_law_draw" 2 ["box", "many"] (sp_law_draw K cs)) : Def P w K mg base CX0 "_law_some_value" 3 ["box"] (sp_law_some_value K cs) := by
  obtain ⟨fd, F⟩ := T.d_law_some_value
  refine Def.mk' (k := 2) F T.g_law_some_value sc_law_some_value (fun _ _ _ _ _ _ us hl => match us, hl with | [_], _ => rfl) (fun vs H Q E h => spSome_len h) (fun cdv A outer s H vs Q E hr h => ⟨_, PSs.nox (pss_cons (ps_set (i := 1) sc_law_some_value.nd rfl (Or.inl rfl) (pe_lst (pa_cons pe_non (pa_cons pe_int (pa_cons (pe_un un_neg pe_int) (pa_cons pe_int (pa_cons pe_int (pa_cons (pe_un un_neg pe_int) (pa_cons (pe_un un_neg pe_int) (pa_cons pe_int (pa_cons pe_str (pa_cons pe_str (pa_cons pe_str (pa_cons pe_str (pa_cons pe_str (pa_cons pe_str (pa_cons pe_str pa_nil)))))))))))))))))
      (pss_one (ps_ret (pe_op op_addG (pv 1) (pe_lst (pa_cons (pe_op op_subG (pe_cal G_law_draw (hr.mono (by decide)) rfl (pa_cons (pv 0) (pa_cons pe_int pa_nil))) pe_int) (pa_cons (pe_op op_addG (pe_slice sl_G pe_str po_none (po_some (pe_cal G_law_draw (hr.mono (by decide)) rfl (pa_cons (pv 0) (pa_cons pe_int pa_nil))))) pe_str) pa_nil))))))), ?_⟩)
  obtain ⟨C, I, b, d, rfl, W, i, B, k⟩ := h
  refine at_start (σ' := [some _, none]) rfl ?_
  try dsimp only [cxOf, Cx.nox]
  walk_at "zz"
  refine ⟨sz_lit rfl, fun p hp => ?_⟩
  have np := W.new i hp
  have X0 := (Xt.refl i).put W hp (o := .lst (someD.map valD))
  generalize hH0 : upd H p _ = H0
  have X0 : Xt C I H H0 := by
    rw [← hH0]
    exact X0
  have hp0 : H0 p = some (.lst (someD.map valD)) := by
    rw [← hH0]
    exact upd_same
  walk_at "zz"
  refine use_draw W X0.2 B (by decide) fun r1 H1 l1 g1 X1 => ?_
  walk_at "zz"
  refine use_draw W X1.2 B (by decide) fun r2 H2 l2 g2 X2 => ?_
  walk_at "zz"
  refine r_slS (z := Str.ofString "ab") (sz_lit (by decide +kernel)) ?_
  walk_at "zz"
  have cut : cutS (Str.ofString "ab") none (some r2) ++ Str.ofString "c" = Str.ofString "c" ∨ cutS (Str.ofString "ab") none (some r2) ++ Str.ofString "c" = Str.ofString "ac" ∨ cutS (Str.ofString "ab") none (some r2) ++ Str.ofString "c" = Str.ofString "abc" := by
    have c3 : r2 = 0 ∨ r2 = 1 ∨ r2 = 2 := by omega
    rcases c3 with rfl | rfl | rfl
    · exact .inl (by decide +kernel)
    · exact .inr (.inl (by decide +kernel))
    · exact .inr (.inr (by decide +kernel))
  have cutl : (cutS (Str.ofString "ab") none (some r2)).length + (Str.ofString "c").length ≤ sizeLine := by
    have c3 : r2 = 0 ∨ r2 = 1 ∨ r2 = 2 := by omega
    rcases c3 with rfl | rfl | rfl <;> decide +kernel
  refine r_addS cutl ?_
  generalize cutS (Str.ofString "ab") none (some r2) ++ Str.ofString "c" = t at cut ⊢
  have gt : goodD (.str t) = true := by
    rcases cut with rfl | rfl | rfl <;> decide +kernel
  walk_at "zz"
  refine ⟨sz_lit rfl, fun q hq => ?_⟩
  walk_at "zz"
  have X3 := (X1.trans X2)
  have hp3 := X3.1 p _ np hp0
  have ne : p ≠ q := ne_of_none hp3 hq
  have X4 : Xt C I H (upd H2 q (.lst [V.int (r1 - 20), V.str t])) := (X0.trans X3).put W hq
  refine r_addL (by rw [upd_ne ne]; exact hp3) upd_same (sz_lit rfl) fun u hu => ?_
  refine k u (someD ++ [.int (r1 - 20), .str t]) _ (W.new X4.2 hu) ?_ rfl ?_ (X4.put W hu)
  · rw [upd_same, List.map_append]
    rfl
  · intro x hx
    rcases List.mem_append.mp hx with h1 | h1
    · exact List.all_eq_true.mp someD_good x h1
    · rcases List.mem_cons.mp h1 with rfl | h1
      · simp only [goodD, Bool.and_eq_true, decide_eq_true_eq]
        omega
      · rw [List.mem_singleton.mp h1]
        exact gt
end
end Z
namespace Z
open PySem PySem.Spec PyProof.Rows L2 GxR
section
variable {P : Program} {w : World} {K : PySem.W.Frag} {mg : Str → Option Value} {base : Heap} {cs : List Addr}
/-- something that is no value -/
def spThings (K : PySem.W.Frag) (cs : List Addr) : Sp := fun vs H Q _ => ∃ (C : Addr → Prop) (I : Hp → Prop) (b d : Addr), vs = [.ref b] ∧ Wd cs C I ∧ I H ∧ Bx C I b d ∧
  ∀ (v : V) (d : PyData) (H' : Hp), Rp K C H' v d → lenOk d = true → isVal d = false → isBase d = false → Xt C I H H' → Q v H'
theorem spThings_len {vs : List V} {H : Hp} {Q : VK} {E : XK} (h : spThings K cs vs H Q E) : vs.length = 1 := by
  obtain ⟨_, _, _, _, rfl, _⟩ := h
  rfl
abbrev sp_law_things (K : PySem.W.Frag) (cs : List Addr) : Sp := spThings K cs
theorem ok_law_things (T : Tx K mg) (G_law_draw : Def P w K mg base CX0 "_law_draw" 2 ["box", "many"] (sp_law_draw K cs)) : Def P w K mg base CX0 "_law_things" 3 ["box"] (sp_law_things K cs) := by
  obtain ⟨fd, F⟩ := T.d_law_things
  refine Def.mk' (k := 2) F T.g_law_things sc_law_things (fun _ _ _ _ _ _ us hl => match us, hl with | [_], _ => rfl) (fun vs H Q E h => spThings_len h) (fun cdv A outer s H vs Q E hr h => ⟨_, PSs.nox (pss_one (ps_ret (pe_ix ix_seq (pe_lst (pa_cons pe_bl (pa_cons pe_bl (pa_cons pe_str (pa_cons pe_str (pa_cons pe_str (pa_cons (pe_tup pa_nil) (pa_cons (pe_tup (pa_cons pe_int pa_nil)) (pa_cons (pe_tup (pa_cons pe_str pa_nil)) (pa_cons (pe_tup (pa_cons pe_str (pa_cons pe_int pa_nil))) (pa_cons (pe_tup (pa_cons (pe_tup pa_nil) pa_nil)) pa_nil))))))))))) (pe_cal G_law_draw (hr.mono (by decide)) rfl (pa_cons (pv 0) (pa_cons pe_int pa_nil))) (fun _ _ => rfl)))), ?_⟩)
  obtain ⟨C, I, b, d, rfl, W, i, B, k⟩ := h
  refine at_start (σ' := [some _]) rfl ?_
  try dsimp only [cxOf, Cx.nox]
  walk_at "zz"
  refine newT (K := K) W i .nil rfl fun q0 H0 _ _ X0 t0 => ?_
  walk_at "zz"
  refine newT (K := K) W X0.2 (.cons (.int 1) .nil) rfl fun q1 H1 _ _ X1 t1 => ?_
  walk_at "zz"
  refine newT (K := K) W X1.2 (.cons (.str _) .nil) rfl fun q2 H2 _ _ X2 t2 => ?_
  walk_at "zz"
  refine newT (K := K) W X2.2 (.cons (.str _) (.cons (.int 1) .nil)) rfl fun q3 H3 _ _ X3 t3 => ?_
  walk_at "zz"
  refine newT (K := K) W X3.2 .nil rfl fun q4 H4 _ _ X4 t4 => ?_
  walk_at "zz"
  refine newT (K := K) W X4.2 (.cons t4 .nil) rfl fun q5 H5 _ _ X5 t5 => ?_
  walk_at "zz"
  refine newL W X5.2 rfl fun p H6 _ np X6 hp => ?_
  walk_at "zz"
  refine use_draw W X6.2 B (by decide) fun r H7 l g X7 => ?_
  have Y5 := (X6.trans X7).1
  have Y4 := X5.1.trans Y5
  have Y3 := X4.1.trans Y4
  have Y2 := X3.1.trans Y3
  have Y1 := X2.1.trans Y2
  have Y0 := X1.1.trans Y1
  have YY : Xt C I H H7 := ⟨X0.1.trans Y0, X7.2⟩
  have hp7 := X7.1 p _ np hp
  have r10 : r = 0 ∨ r = 1 ∨ r = 2 ∨ r = 3 ∨ r = 4 ∨ r = 5 ∨ r = 6 ∨ r = 7 ∨ r = 8 ∨ r = 9 := by omega
  rcases r10 with rfl | rfl | rfl | rfl | rfl | rfl | rfl | rfl | rfl | rfl
  · exact r_ixL (SqL.of hp7) (v := .bl true) rfl (k _ _ _ (.bl true) rfl rfl rfl YY)
  · exact r_ixL (SqL.of hp7) (v := .bl false) rfl (k _ _ _ (.bl false) rfl rfl rfl YY)
  · exact r_ixL (SqL.of hp7) (v := .str (Str.ofString "A")) rfl (k _ _ _ (.str _) (by decide +kernel) (by decide +kernel) (by decide +kernel) YY)
  · exact r_ixL (SqL.of hp7) (v := .str (Str.ofString "a b")) rfl (k _ _ _ (.str _) (by decide +kernel) (by decide +kernel) (by decide +kernel) YY)
  · exact r_ixL (SqL.of hp7) (v := .str (Str.ofString "1")) rfl (k _ _ _ (.str _) (by decide +kernel) (by decide +kernel) (by decide +kernel) YY)
  · exact r_ixL (SqL.of hp7) (v := .ref q0) rfl (k _ _ _ (t0.mono Y0) rfl rfl rfl YY)
  · exact r_ixL (SqL.of hp7) (v := .ref q1) rfl (k _ _ _ (t1.mono Y1) rfl rfl rfl YY)
  · exact r_ixL (SqL.of hp7) (v := .ref q2) rfl (k _ _ _ (t2.mono Y2) rfl rfl rfl YY)
  · exact r_ixL (SqL.of hp7) (v := .ref q3) rfl (k _ _ _ (t3.mono Y3) rfl rfl rfl YY)
  · exact r_ixL (SqL.of hp7) (v := .ref q5) rfl (k _ _ _ (t5.mono Y5) rfl rfl rfl YY)
def f_before : List PyData → Option PyData
  | [d, e] => if goodD d = true ∧ goodD e = true then some (.bool (ltD d e)) else none
  | _ => none
theorem kd_lt {d e : PyData} (h : goodD d = true) (h' : goodD e = true) (n : kdD d ≠ kdD e) : decide (kdD d < kdD e) = ltD d e := by
  cases d <;> first | (cases h; done) | skip
  all_goals (cases e <;> first | (cases h'; done) | rfl | (exact absurd rfl n))
theorem kd_val {d : PyData} (h : goodD d = true) : ((if (!decide (valD d = V.non)) = true then (1 : Int) else 0) + (if isD d "str" = true then 1 else 0)) = kdD d := by
  cases d <;> first | (cases h; done) | rfl
abbrev sp_law_before (K : PySem.W.Frag) (cs : List Addr) : Sp := spD K cs 2 f_before
theorem ok_law_before (T : Tx K mg) : Def P w K mg base CX0 "_law_before" 2 ["one", "other"] (sp_law_before K cs) := by
  obtain ⟨fd, F⟩ := T.d_law_before
  refine Def.mk' (k := 1) F T.g_law_before sc_law_before (fun _ _ _ _ _ _ us hl => match us, hl with | [_, _], _ => rfl) (fun vs H Q E h => spD_len h) (fun cdv A outer s H vs Q E hr h => ⟨_, PSs.nox (pss_cons (ps_setLc (i := 2) (own := [("value", 4)]) rfl sc_law_before.nd rfl rfl (sw_true rfl rfl rfl (by decide +kernel)) (pi_tup (pe_tup (pa_cons (pv 0) (pa_cons (pv 1) pa_nil)))) (blkOk_by (own := [("value", 4)]) (N := ["one", "other", "kinds", "k", "value"]) (sc := defScope s_law_before) (by decide +kernel)) (fun _ _ _ _ _ => (pg_name (i := 4) sc_law_before.nd rfl (Or.inl rfl))) (fun _ _ _ _ _ => pts_nil) (fun _ _ _ _ _ => (pe_op (opK (K := K) (r := rAddG) rfl op_addG) (pe_callTy call_intG (by rfl) T.b_int bt_int (pa_cons (pe_cmpR op_isnG (pv 4) pe_non (nomark _)) pa_nil)) (pe_callTy call_intG (by rfl) T.b_int bt_int (pa_cons (pe_callB (callK (K := K) (r := rIsD) rfl call_isD) (by rfl) T.b_isinstance bt_isinstance (pa_cons (pv 4) (pa_cons (pe_bltn (v := .ty "str") (by rfl) T.b_str bt_str rfl) pa_nil))) pa_nil)))))
      (pss_cons (ps_if (pt_cmpR (op_neG hr.units) (pe_ix ix_seq (pv 2) pe_int (fun _ _ => rfl)) (pe_ix ix_seq (pv 2) pe_int (fun _ _ => rfl)) (nomark _)) (pss_one (ps_ret (pe_cmpR (op_ltG hr.units0) (pe_ix ix_seq (pv 2) pe_int (fun _ _ => rfl)) (pe_ix ix_seq (pv 2) pe_int (fun _ _ => rfl)) (nomark _)))) pss_nil)
      (pss_cons (ps_if (pt_cmpR (op_eqG hr.units) (pe_ix ix_seq (pv 2) pe_int (fun _ _ => rfl)) pe_int (nomark _)) (pss_cons (ps_for PassesOwn.never rfl (pi_range1 (by rfl) T.b_range (pa_cons (pe_callB call_minG (by rfl) T.b_min bt_min (pa_cons (pe_callB call_lenG (by rfl) T.b_len bt_len (pa_cons (pv 0) pa_nil)) (pa_cons (pe_callB call_lenG (by rfl) T.b_len bt_len (pa_cons (pv 1) pa_nil)) pa_nil))) pa_nil)) (pg_name (i := 3) sc_law_before.nd rfl (Or.inl rfl)) (pss_one (ps_if (pt_cmpR (op_neG hr.units) (pe_ix ix_seq (pv 0) (pv 3) (fun _ _ => rfl)) (pe_ix ix_seq (pv 1) (pv 3) (fun _ _ => rfl)) (nomark _)) (pss_one (ps_ret (pe_cmpR (op_ltG hr.units0) (pe_bm PySem.F.plainAttrs_str PySem.F.slot_str_index PySem.F.type_str_index mt_sindex pe_str (pa_cons (pe_ix ix_seq (pv 0) (pv 3) (fun _ _ => rfl)) pa_nil)) (pe_bm PySem.F.plainAttrs_str PySem.F.slot_str_index PySem.F.type_str_index mt_sindex pe_str (pa_cons (pe_ix ix_seq (pv 1) (pv 3) (fun _ _ => rfl)) pa_nil)) (nomark _)))) pss_nil)))
      (pss_one (ps_ret (pe_cmpR (op_ltG hr.units0) (pe_callB call_lenG (by rfl) T.b_len bt_len (pa_cons (pv 0) pa_nil)) (pe_callB call_lenG (by rfl) T.b_len bt_len (pa_cons (pv 1) pa_nil)) (nomark _))))) pss_nil)
      (pss_one (ps_ret (pe_and (pe_cmpR (op_eqG hr.units) (pe_ix ix_seq (pv 2) pe_int (fun _ _ => rfl)) pe_int (nomark _)) (pe_one (pe_cmpR (op_ltG hr.units0) (pv 0) (pv 1) (nomark _))))))))), ?_⟩)
  obtain ⟨C, I, ds, r, hn, W, i, hd, hf, k⟩ := h
  obtain ⟨v, v2, d, d2, rfl, rfl, hv, hv2⟩ := all2 hd hn
  have hl : goodD d = true ∧ goodD d2 = true := by
    by_cases e : goodD d = true ∧ goodD d2 = true
    · exact e
    · rw [show f_before [d, d2] = none from if_neg e] at hf
      cases hf
  rw [show f_before [d, d2] = some (.bool (ltD d d2)) from if_pos hl] at hf
  cases hf
  obtain ⟨l1, l2⟩ := hl
  obtain rfl := hv.flat (goodD_flat l1)
  obtain rfl := hv2.flat (goodD_flat l2)
  refine at_start (σ' := [some _, some _, none, none, none]) rfl ?_
  try dsimp only [cxOf, Cx.nox]
  walk_at "zz"
  refine newTS (K := K) W i rfl fun q H0 _ nq X0 t0 => ?_
  refine l_lcT W X0.2 t0 (ds := [.int (kdD d), .int (kdD d2)]) rfl (by show 2 ≤ 100000; decide) ?turn fun D ys H1 hD nD X1 hD1 hys => ?_
  case turn =>
    intro j x e C' I' H' hx he T' Q' k'
    obtain ⟨d0, rfl, hg, rfl⟩ : ∃ d0, x = valD d0 ∧ goodD d0 = true ∧ e = .int (kdD d0) := by
      match j, hx, he with
      | 0, hx, he => exact ⟨d, (Option.some.inj hx).symm, l1, (Option.some.inj he).symm⟩
      | 1, hx, he => exact ⟨d2, (Option.some.inj hx).symm, l2, (Option.some.inj he).symm⟩
    refine ⟨rfl, ?_⟩
    walk_at "zz"
    refine r_isD (Rp.of_flat (C := C') (goodD_flat hg)) ?_
    walk_at "zz"
    rw [kd_val hg]
    exact k' _ _ (Xt.refl T'.i) (.int _)
  obtain ⟨w1, w2, rfl, h1, h2⟩ := hys.two
  obtain rfl := h1.eq_int
  obtain rfl := h2.eq_int
  have XX := X0.trans X1
  walk_at "zz"
  refine r_ixL (SqL.of hD1) (v := .int (kdD d)) rfl ?_
  walk_at "zz"
  refine r_ixL (SqL.of hD1) (v := .int (kdD d2)) rfl ?_
  walk_at "zz"
  refine r_if (fun e => ?_) (fun e => ?_)
  · have ne : kdD d ≠ kdD d2 := by simpa using e
    walk_at "zz"
    refine r_ixL (SqL.of hD1) (v := .int (kdD d)) rfl ?_
    walk_at "zz"
    refine r_ixL (SqL.of hD1) (v := .int (kdD d2)) rfl ?_
    walk_at "zz"
    rw [kd_lt l1 l2 ne]
    exact k _ _ XX (.bl _)
  · have eq : kdD d = kdD d2 := by simpa using e
    walk_at "zz"
    refine r_ixL (SqL.of hD1) (v := .int (kdD d)) rfl ?_
    walk_at "zz"
    refine r_if (fun e2 => ?_) (fun e2 => ?_)
    · -- two texts
      replace e2 := of_decide_eq_true e2
      cases d <;> first | (cases l1; done) | (simp [kdD] at e2; done) | skip
      cases d2 <;> first | (cases l2; done) | (simp [kdD] at eq; done) | skip
      rename_i x y
      obtain ⟨ax, zx⟩ := goodD_str l1
      obtain ⟨ay, zy⟩ := goodD_str l2
      have sx : x.length ≤ sizeLine := small_of (by omega)
      have sy : y.length ≤ sizeLine := small_of (by omega)
      walk_at "zz"
      refine r_lenS sx ?_
      walk_at "zz"
      refine r_lenS sy ?_
      walk_at "zz"
      refine l_rng1 (m := min x.length y.length) (by split <;> omega) (by omega) (fun j σ' H' => (∃ v3, σ' = [some (.str x), some (.str y), some (.ref D), v3, none]) ∧ H' = H1 ∧ x.cps.toList.take j = y.cps.toList.take j)
        ⟨⟨none, rfl⟩, rfl, rfl⟩ ?_ ?_
      · rintro j σ' H' hj ⟨⟨v3, rfl⟩, rfl, ht⟩
        have jx : j < x.cps.toList.length := by rw [len_cps]; omega
        have jy : j < y.cps.toList.length := by rw [len_cps]; omega
        have ex := List.getElem?_eq_getElem jx
        have ey := List.getElem?_eq_getElem jy
        generalize x.cps.toList[j] = a at ex
        generalize y.cps.toList[j] = b at ey
        walk_at "zz"
        refine r_ixS sx (atI_nat ex) ?_
        walk_at "zz"
        refine r_ixS sy (atI_nat ey) ?_
        walk_at "zz"
        rw [one_inj]
        refine r_if (fun e3 => ?_) (fun e3 => ?_)
        · have ne : a ≠ b := by simpa using e3
          obtain ⟨r1, o1⟩ := abc_at (az_at ax ex)
          obtain ⟨r2, o2⟩ := abc_at (az_at ay ey)
          walk_at "zz"
          refine ⟨rfl, ?_⟩
          walk_at "zz"
          refine r_ixS sx (atI_nat ex) ?_
          walk_at "zz"
          refine ⟨_, _, _, r1, rfl, rfl, o1, ?_⟩
          walk_at "zz"
          refine ⟨rfl, ?_⟩
          walk_at "zz"
          refine r_ixS sy (atI_nat ey) ?_
          walk_at "zz"
          refine ⟨_, _, _, r2, rfl, rfl, o2, ?_⟩
          walk_at "zz"
          have g1 := azC_ge (az_at ax ex)
          have g2 := azC_ge (az_at ay ey)
          have e4 : decide (((a - 97 : Nat) : Int) < ((b - 97 : Nat) : Int)) = ltD (.str x) (.str y) := by
            show _ = decide (x.cps.toList < y.cps.toList)
            rw [lex_at j _ _ a b ht ex ey ne]
            by_cases l : a < b
            · rw [decide_eq_true l, decide_eq_true (by omega)]
            · rw [decide_eq_false l, decide_eq_false (by omega)]
          rw [e4]
          exact k _ _ XX (.bl _)
        · have eq2 : a = b := by simpa using e3
          subst eq2
          walk_at "zz"
          refine ⟨⟨_, rfl⟩, rfl, ?_⟩
          rw [List.take_succ, List.take_succ, ht, ex, ey]
      · rintro σ' H' ⟨⟨v3, rfl⟩, rfl, ht⟩
        walk_at "zz"
        refine r_lenS sx ?_
        walk_at "zz"
        refine r_lenS sy ?_
        walk_at "zz"
        have e4 : decide ((x.length : Int) < (y.length : Int)) = ltD (.str x) (.str y) := by
          show _ = decide (x.cps.toList < y.cps.toList)
          rw [lex_pre _ _ (by rw [len_cps, len_cps]; exact ht), len_cps, len_cps]
          by_cases l : x.length < y.length
          · rw [decide_eq_true l, decide_eq_true (by omega)]
          · rw [decide_eq_false l, decide_eq_false (by omega)]
        rw [e4]
        exact k _ _ XX (.bl _)
    · have ne2 : kdD d ≠ 2 := by simpa using e2
      walk_at "zz"
      refine r_ixL (SqL.of hD1) (v := .int (kdD d)) rfl ?_
      walk_at "zz"
      refine r_if (fun e3 => ?_) (fun e3 => ?_)
      · replace e3 := of_decide_eq_true e3
        cases d <;> first | (cases l1; done) | (simp [kdD] at e3; done) | skip
        cases d2 <;> first | (cases l2; done) | (simp [kdD] at eq; done) | skip
        walk_at "zz"
        dsimp only [valD]
        walk_at "zz"
        exact k _ _ XX (.bl _)
      · replace e3 := of_decide_eq_false e3
        have e4 : false = ltD d d2 := by
          cases d <;> first | (cases l1; done) | (simp [kdD] at ne2; done) | (simp [kdD] at e3; done) | skip
          cases d2 <;> first | (cases l2; done) | (simp [kdD] at eq; done) | rfl
        rw [e4]
        exact k _ _ XX (.bl _)
end
end Z
namespace Z
open PySem PySem.Spec PyProof.Rows L2 GxR
theorem list_tri (xs ys : List Nat) : xs < ys ∨ xs = ys ∨ ys < xs := by
  induction xs generalizing ys with
  | nil =>
    cases ys with
    | nil => exact .inr (.inl rfl)
    | cons y ys => exact .inl (by simp)
  | cons x xs ih =>
    cases ys with
    | nil => exact .inr (.inr (by simp))
    | cons y ys =>
      rcases Nat.lt_trichotomy x y with h | h | h
      · exact .inl (List.cons_lt_cons_iff.mpr (.inl h))
      · subst h
        rcases ih ys with h | h | h
        · exact .inl (List.cons_lt_cons_iff.mpr (.inr ⟨rfl, h⟩))
        · exact .inr (.inl (by rw [h]))
        · exact .inr (.inr (List.cons_lt_cons_iff.mpr (.inr ⟨rfl, h⟩)))
      · exact .inr (.inr (List.cons_lt_cons_iff.mpr (.inl h)))
theorem list_asym {xs ys : List Nat} (h : xs < ys) : ¬ ys < xs := fun g => List.lt_irrefl xs (List.lt_trans h g)
def dueD (d e : PyData) : Int := (if ltD e d = true then 1 else 0) - (if ltD d e = true then 1 else 0)
theorem due_all {d e : PyData} (h : goodD d = true) (h' : goodD e = true) : cmpD d e = dueD d e ∧ ltD d e = decide (dueD d e = -1) ∧ eqD d e = decide (dueD d e = 0) := by
  cases d <;> first | (cases h; done) | skip
  all_goals (cases e <;> first | (cases h'; done) | (refine ⟨rfl, rfl, rfl⟩; done) | skip)
  · rename_i a b
    rcases Int.lt_trichotomy a b with l | l | l
    · have h1 : ¬ b < a := by omega
      have h2 : ¬ a = b := by omega
      simp [cmpD, dueD, ltD, eqD, l, h1, h2]
    · subst l
      simp [cmpD, dueD, ltD, eqD]
    · have h1 : ¬ a < b := by omega
      have h2 : ¬ a = b := by omega
      simp [cmpD, dueD, ltD, eqD, l, h1, h2]
  · rename_i a b
    have ee : ∀ x y : Str, x.cps.toList = y.cps.toList → x = y := fun x y h => by
      cases x
      cases y
      simp only [Str.mk.injEq]
      exact Array.toList_inj.mp h
    rcases list_tri a.cps.toList b.cps.toList with l | l | l
    · have h1 := list_asym l
      have h2 : ¬ a = b := fun z => by
        rw [z] at l
        exact List.lt_irrefl _ l
      simp only [cmpD, dueD, ltD, eqD, decide_eq_true l, decide_eq_false h1, decide_eq_false h2]
      decide
    · have := ee _ _ l
      subst this
      have h1 := List.lt_irrefl a.cps.toList
      simp only [cmpD, dueD, ltD, eqD, decide_eq_false h1]
      simp
    · have h1 := list_asym l
      have h2 : ¬ a = b := fun z => by
        rw [z] at l
        exact List.lt_irrefl _ l
      simp only [cmpD, dueD, ltD, eqD, decide_eq_true l, decide_eq_false h1, decide_eq_false h2]
      decide
theorem due_small (d e : PyData) : (PyData.int (dueD d e)).showable = true ∧ (PyData.int (dueD d e)).shown.length ≤ sizeLine := by
  have c : dueD d e = -1 ∨ dueD d e = 0 ∨ dueD d e = 1 := by
    unfold dueD
    split <;> split <;> omega
  rcases c with c | c | c <;> rw [c] <;> exact ⟨by decide +kernel, by decide +kernel⟩
/-- an item of the law's list by a drawn number -/
theorem pick {ds : List PyData} (hl : ds.length = 17) (hg : ∀ x ∈ ds, goodD x = true) {r : Int} (h0 : 0 ≤ r) : ∃ d, goodD d = true ∧ atI (ds.map valD) (r % ((ds.map valD).length : Int)) = some (valD d) := by
  have hp : (0 : Int) < ((ds.map valD).length : Int) := by rw [List.length_map]; omega
  have h1 := Int.emod_nonneg r (show ((ds.map valD).length : Int) ≠ 0 by omega)
  have h2 := Int.emod_lt_of_pos r hp
  generalize r % ((ds.map valD).length : Int) = j at h1 h2
  obtain ⟨n, rfl⟩ : ∃ n : Nat, j = (n : Int) := ⟨j.toNat, by omega⟩
  rw [List.length_map] at h2
  have hn : n < ds.length := by omega
  exact ⟨ds[n], hg _ (List.getElem_mem hn), atI_nat (by simp [hn])⟩
section
variable {P : Program} {w : World} {K : PySem.W.Frag} {mg : Str → Option Value} {base : Heap} {cs : List Addr}
def spLaw (K : PySem.W.Frag) (cs : List Addr) : Sp := fun vs H Q _ => ∃ (a : Addr) (ns : List Int), vs = [.ref a] ∧ I0 cs H ∧ StL K (C0 cs) H a (ns.map V.int) ∧ ns.length ≤ 1000 ∧ ∀ H', Q (.bl true) H'
theorem spLaw_len {vs : List V} {H : Hp} {Q : VK} {E : XK} (h : spLaw K cs vs H Q E) : vs.length = 1 := by
  obtain ⟨_, _, rfl, _⟩ := h
  rfl
abbrev sp_law (K : PySem.W.Frag) (cs : List Addr) : Sp := spLaw K cs
theorem ok_law {fd : FuncData} (T : Tx K mg) (G_law_some_value : Def P w K mg base CX0 "_law_some_value" 3 ["box"] (sp_law_some_value K cs)) (G_law_things : Def P w K mg base CX0 "_law_things" 3 ["box"] (sp_law_things K cs)) (G_law_digits : Def P w K mg base CX0 "_law_digits" 3 ["script", "first", "last"] (sp_law_digits K cs)) (G_law_same : Def P w K mg base CX0 "_law_same" 2 ["actual", "due"] (sp_law_same K cs)) (G_is_value : Def P w K mg base CX0 "is_value" 4 ["thing"] (sp_is_value K cs)) (G_is_base : Def P w K mg base CX0 "is_base" 4 ["thing"] (sp_is_base K cs)) (G_law_before : Def P w K mg base CX0 "_law_before" 2 ["one", "other"] (sp_law_before K cs)) (G_has_kind : Def P w K mg base CX0 "has_kind" 4 ["value", "kind"] (sp_has_kind K cs)) (G_law_draw : Def P w K mg base CX0 "_law_draw" 2 ["box", "many"] (sp_law_draw K cs)) (G_compare : Def P w K mg base CX0 "compare" 4 ["one", "other"] (sp_compare K cs)) (G_key_of : Def P w K mg base CX0 "key_of" 3 ["value"] (sp_key_of K cs)) (F : FunD K "law" "law" (defArgs s_law) (defBody s_law) (defScope s_law) [] [] (He.ga K "law") fd) : FnOk P w K mg base CX0 5 (He.ga K "law") fd ["script"] (sp_law K cs) := by
  refine F.ok (k := 4) sc_law (fun vs H Q E h => spLaw_len h) (fun cdv A outer s H vs Q E hr h => ⟨_, PSs.nox (pss_cons (ps_set (i := 1) sc_law.nd rfl (Or.inl rfl) (pe_lst (pa_cons (pe_cal G_law_digits (hr.mono (by decide)) rfl (pa_cons (pv 0) (pa_cons pe_int (pa_cons pe_int pa_nil)))) (pa_cons pe_int pa_nil))))
      (pss_cons (ps_set (i := 2) sc_law.nd rfl (Or.inl rfl) (pe_cal G_law_some_value (hr.mono (by decide)) rfl (pa_cons (pv 1) pa_nil)))
      (pss_cons (ps_for PassesOwn.never rfl (pi_range1 (by rfl) T.b_range (pa_cons pe_int pa_nil)) (pg_name (i := 3) sc_law.nd rfl (Or.inl rfl)) (pss_cons (ps_set (i := 4) sc_law.nd rfl (Or.inl rfl) (pe_ix ix_seq (pv 2) (pe_op op_modG (pe_callTy call_intG (by rfl) T.b_int bt_int (pa_cons (pe_cal G_law_draw (hr.mono (by decide)) rfl (pa_cons (pv 1) (pa_cons pe_int pa_nil))) pa_nil)) (pe_callB call_lenG (by rfl) T.b_len bt_len (pa_cons (pv 2) pa_nil))) (fun _ _ => rfl)))
      (pss_cons (ps_set (i := 5) sc_law.nd rfl (Or.inl rfl) (pe_ix ix_seq (pv 2) (pe_op op_modG (pe_callTy call_intG (by rfl) T.b_int bt_int (pa_cons (pe_cal G_law_draw (hr.mono (by decide)) rfl (pa_cons (pv 1) (pa_cons pe_int pa_nil))) pa_nil)) (pe_callB call_lenG (by rfl) T.b_len bt_len (pa_cons (pv 2) pa_nil))) (fun _ _ => rfl)))
      (pss_cons (ps_set (i := 6) sc_law.nd rfl (Or.inl rfl) (pe_op op_subG (pe_callTy call_intG (by rfl) T.b_int bt_int (pa_cons (pe_cal G_law_before (hr.mono (by decide)) rfl (pa_cons (pv 5) (pa_cons (pv 4) pa_nil))) pa_nil)) (pe_callTy call_intG (by rfl) T.b_int bt_int (pa_cons (pe_cal G_law_before (hr.mono (by decide)) rfl (pa_cons (pv 4) (pa_cons (pv 5) pa_nil))) pa_nil))))
      (pss_cons (ps_if (PW.pt (pw_or (pt_not (pt_val (pe_cal G_law_same (hr.mono (by decide)) rfl (pa_cons (pe_cal G_compare (hr.mono (by decide)) rfl (pa_cons (pv 4) (pa_cons (pv 5) pa_nil))) (pa_cons (pv 6) pa_nil))))) (pw_or (pt_cmpR (op_neG hr.units) (pe_cmpR (op_ltG hr.units0) (pe_cal G_key_of (hr.mono (by decide)) rfl (pa_cons (pv 4) pa_nil)) (pe_cal G_key_of (hr.mono (by decide)) rfl (pa_cons (pv 5) pa_nil)) (nomark _)) (pe_cmpR (op_eqG hr.units) (pv 6) (pe_un un_neg pe_int) (nomark _)) (nomark _)) (pw_or1 (pt_cmpR (op_neG hr.units) (pe_cmpR (op_eqG hr.units) (pe_cal G_key_of (hr.mono (by decide)) rfl (pa_cons (pv 4) pa_nil)) (pe_cal G_key_of (hr.mono (by decide)) rfl (pa_cons (pv 5) pa_nil)) (nomark _)) (pe_cmpR (op_eqG hr.units) (pv 6) pe_int (nomark _)) (nomark _)))))) (pss_one (ps_ret pe_bl)) pss_nil)
      (pss_cons (ps_if (PW.pt (pw_or (pt_cmpR op_isnG (pe_cal G_is_value (hr.mono (by decide)) rfl (pa_cons (pv 4) pa_nil)) pe_bl (nomark _)) (pw_or (pt_cmpR (op_neG hr.units) (pe_cal G_has_kind (hr.mono (by decide)) rfl (pa_cons (pv 4) (pa_cons pe_str pa_nil))) (pe_or (pe_cmpR op_isG (pv 4) pe_non (nomark _)) (pe_one (pe_callB call_isD (by rfl) T.b_isinstance bt_isinstance (pa_cons (pv 4) (pa_cons (pe_bltn (v := .ty "str") (by rfl) T.b_str bt_str rfl) pa_nil))))) (nomark _)) (pw_or1 (pt_cmpR (op_neG hr.units) (pe_cal G_has_kind (hr.mono (by decide)) rfl (pa_cons (pv 4) (pa_cons pe_str pa_nil))) (pe_not (pe_callB call_isD (by rfl) T.b_isinstance bt_isinstance (pa_cons (pv 4) (pa_cons (pe_bltn (v := .ty "str") (by rfl) T.b_str bt_str rfl) pa_nil)))) (nomark _)))))) (pss_one (ps_ret pe_bl)) pss_nil)
      (pss_cons (ps_set (i := 7) sc_law.nd rfl (Or.inl rfl) (pe_or (pe_cmpR op_isG (pv 4) pe_non (nomark _)) (pe_or (pe_and (pe_callB call_isD (by rfl) T.b_isinstance bt_isinstance (pa_cons (pv 4) (pa_cons (pe_bltn (v := .ty "str") (by rfl) T.b_str bt_str rfl) pa_nil))) (pe_one (pe_cmpR op_leG (pe_callB call_lenG (by rfl) T.b_len bt_len (pa_cons (pv 4) pa_nil)) pe_int (nomark _)))) (pe_one (pe_and (pe_callB call_isD (by rfl) T.b_isinstance bt_isinstance (pa_cons (pv 4) (pa_cons (pe_bltn (v := .ty "int") (by rfl) T.b_int bt_int rfl) pa_nil))) (pe_one (pe_chain op_leG op_leG (pe_un un_neg pe_int) (pv 4) pe_int)))))))
      (pss_one (ps_if (pt_not (pt_val (pe_cal G_law_same (hr.mono (by decide)) rfl (pa_cons (pe_cal G_is_base (hr.mono (by decide)) rfl (pa_cons (pv 4) pa_nil)) (pa_cons (pv 7) pa_nil))))) (pss_one (ps_ret pe_bl)) pss_nil)))))))))
      (pss_cons (ps_set (i := 8) sc_law.nd rfl (Or.inl rfl) (pe_cal G_law_things (hr.mono (by decide)) rfl (pa_cons (pv 1) pa_nil)))
      (pss_one (ps_ret (pe_and (pe_cmpR op_isG (pe_cal G_is_value (hr.mono (by decide)) rfl (pa_cons (pv 8) pa_nil)) pe_bl (nomark _)) (pe_one (pe_cmpR op_isG (pe_cal G_is_base (hr.mono (by decide)) rfl (pa_cons (pv 8) pa_nil)) pe_bl (nomark _)))))))))), ?_⟩)
  obtain ⟨a, ns, rfl, i0, hs, hl, k⟩ := h
  refine at_start (σ' := [some _, none, none, none, none, none, none, none, none]) rfl ?_
  try dsimp only [cxOf, Cx.nox]
  walk_at "zz"
  refine ⟨C0 cs, I0 cs, a, ns, 0, 20, rfl, by decide, by decide, wd0, i0, hs, hl, fun D ms H1 _ _ X1 hD hm => ?_⟩
  walk_at "zz"
  refine ⟨sz_lit rfl, fun b hb => ?_⟩
  have i1 := box_made X1.2 hD hm hb
  generalize upd H1 b _ = H2 at i1
  walk_at "zz"
  refine ⟨C1 cs b D, I1 cs b D, b, D, rfl, wd1, i1, bx1, fun p ds H3 np hp hl17 hg X3 => ?_⟩
  have W : Wd cs (C1 cs b D) (I1 cs b D) := wd1
  have B : Bx (C1 cs b D) (I1 cs b D) b D := bx1
  walk_at "zz"
  refine l_rng1 (m := 12) rfl (by decide) (fun j σ' H' => (∃ v3 v4 v5 v6 v7, σ' = [some (.ref a), some (.ref b), some (.ref p), v3, v4, v5, v6, v7, none]) ∧ Xt (C1 cs b D) (I1 cs b D) H3 H') ⟨⟨none, none, none, none, none, rfl⟩, Xt.refl X3.2⟩ ?_ ?_
  · rintro j σ' H4 hj ⟨⟨v3, v4, v5, v6, v7, rfl⟩, X4⟩
    walk_at "zz"
    refine use_draw W X4.2 B (by decide) fun r1 H5 g1 _ X5 => ?_
    walk_at "zz"
    have hp5 := (X4.trans X5).1 p _ np hp
    refine r_lenL (SqL.of hp5) ?_
    walk_at "zz"
    refine r_mod (by rw [List.length_map]; omega) ?_
    obtain ⟨d, gd, ad⟩ := pick hl17 hg g1
    refine r_ixL (SqL.of hp5) ad ?_
    walk_at "zz"
    refine use_draw W X5.2 B (by decide) fun r2 H6 g2 _ X6 => ?_
    walk_at "zz"
    have hp6 := X6.1 p _ np hp5
    refine r_lenL (SqL.of hp6) ?_
    walk_at "zz"
    refine r_mod (by rw [List.length_map]; omega) ?_
    obtain ⟨e, ge, ae⟩ := pick hl17 hg g2
    refine r_ixL (SqL.of hp6) ae ?_
    walk_at "zz"
    have f1 := goodD_flat gd
    have f2 := goodD_flat ge
    have cd := goodD_cmp gd
    have ce := goodD_cmp ge
    have X46 := (X4.trans X5).trans X6
    refine useB W X46.2 (.cons (Rp.of_flat f2) (.cons (Rp.of_flat f1) .nil)) (if_pos ⟨ge, gd⟩) rfl fun H7 X7 => ?_
    walk_at "zz"
    refine useB W X7.2 (.cons (Rp.of_flat f1) (.cons (Rp.of_flat f2) .nil)) (if_pos ⟨gd, ge⟩) rfl fun H8 X8 => ?_
    walk_at "zz"
    obtain ⟨q1, q2, q3⟩ := due_all gd ge
    obtain ⟨q4, q5⟩ := due_small d e
    have XA := (X46.trans X7).trans X8
    have eD : ((if ltD e d = true then (1 : Int) else 0) - if ltD d e = true then 1 else 0) = dueD d e := rfl
    rw [eD]
    refine useI W XA.2 (.cons (Rp.of_flat f1) (.cons (Rp.of_flat f2) .nil)) (if_pos ⟨cd, ce⟩) rfl fun H9 X9 => ?_
    walk_at "zz"
    refine ⟨.int (dueD d e), by rw [q1]; rfl, rfl, q4, q5, ?_⟩
    walk_at "zz"
    refine spD_use W X9.2 (.cons (Rp.of_flat f1) .nil) (if_pos cd) rfl fun k1 HA XA2 h1 => ?_
    walk_at "zz"
    refine spD_use W XA2.2 (.cons (Rp.of_flat f2) .nil) (if_pos ce) rfl fun k2 HB XB h2 => ?_
    walk_at "zz"
    obtain ⟨a1, rfl, t1⟩ := key_at cd (h1.mono XB.1)
    obtain ⟨a2, rfl, t2⟩ := key_at ce h2
    refine r_ltF t1.sq t2.sq (keyV_flat cd) (keyV_flat ce) (keyV_ok cd ce) ?_
    walk_at "zz"
    rw [keyV_lt cd ce, show (ltD d e != decide (dueD d e = -1)) = false by rw [q2]; simp]
    walk_at "zz"
    refine spD_use W XB.2 (.cons (Rp.of_flat f1) .nil) (if_pos cd) rfl fun k1 HC XC h1 => ?_
    walk_at "zz"
    refine spD_use W XC.2 (.cons (Rp.of_flat f2) .nil) (if_pos ce) rfl fun k2 HD XD h2 => ?_
    walk_at "zz"
    refine r_eqD (h1.mono XD.1).dp h2.dp (shaped_key cd) (shaped_key ce) ?_
    walk_at "zz"
    rw [eqv_key cd ce, show (eqD d e != decide (dueD d e = 0)) = false by rw [q3]; simp]
    walk_at "zz"
    have XE := (((((XA.trans X9).trans XA2).trans XB).trans XC).trans XD)
    refine useB W XE.2 (.cons (Rp.of_flat f1) .nil) rfl rfl fun HF XF => ?_
    walk_at "zz"
    rw [goodD_val gd]
    walk_at "zz"
    cases d with
    | bool b => cases gd
    | list xs => cases gd
    | tuple xs => cases gd
    | dict kvs => cases gd
    | none =>
      refine useB W XF.2 (.cons .non (.cons (.str "text") .nil)) (show f_has_kind [.none, .str "text"] = some (.bool true) from rfl) rfl fun HG XG => ?_
      dsimp only [valD]
      walk_at "zz"
      refine useB W XG.2 (.cons .non (.cons (.str "integer") .nil)) (show f_has_kind [.none, .str "integer"] = some (.bool true) from rfl) rfl fun HH XH => ?_
      walk_at "zz"
      refine r_isD (Rp.non (C := C1 cs b D)) ?_
      walk_at "zz"
      refine useB W XH.2 (.cons .non .nil) (show f_is_base [.none] = some (.bool true) from rfl) rfl fun HI XI => ?_
      walk_at "zz"
      refine ⟨.bool true, rfl, rfl, rfl, by decide +kernel, ?_⟩
      walk_at "zz"
      exact ⟨⟨_, _, _, _, _, rfl⟩, (((XE.trans XF).trans XG).trans XH).trans XI⟩
    | int z =>
      refine useB W XF.2 (.cons (.int z) (.cons (.str "text") .nil)) (show f_has_kind [.int z, .str "text"] = some (.bool false) from rfl) rfl fun HG XG => ?_
      dsimp only [valD]
      walk_at "zz"
      refine r_isD (Rp.int (C := C1 cs b D) z) ?_
      walk_at "zz"
      refine useB W XG.2 (.cons (.int z) (.cons (.str "integer") .nil)) (show f_has_kind [.int z, .str "integer"] = some (.bool true) from rfl) rfl fun HH XH => ?_
      walk_at "zz"
      refine r_isD (Rp.int (C := C1 cs b D) z) ?_
      walk_at "zz"
      refine r_isD (Rp.int (C := C1 cs b D) z) ?_
      walk_at "zz"
      refine r_isD (Rp.int (C := C1 cs b D) z) ?_
      walk_at "zz"
      refine r_if (fun e1 => ?_) (fun e1 => ?_)
      · walk_at "zz"
        refine useB W XH.2 (.cons (.int z) .nil) (show f_is_base [.int z] = some (.bool (isBase (.int z))) from rfl) rfl fun HI XI => ?_
        walk_at "zz"
        refine ⟨.bool (isBase (.int z)), ?_, rfl, rfl, by cases isBase (.int z) <;> decide +kernel, ?_⟩
        · have e2 : isBase (.int z) = decide (z ≤ 9999) := by
            show (decide (-9999 ≤ z) && decide (z ≤ 9999)) = _
            rw [e1]
            rfl
          rw [e2]
          rfl
        walk_at "zz"
        exact ⟨⟨_, _, _, _, _, rfl⟩, (((XE.trans XF).trans XG).trans XH).trans XI⟩
      · walk_at "zz"
        refine useB W XH.2 (.cons (.int z) .nil) (show f_is_base [.int z] = some (.bool (isBase (.int z))) from rfl) rfl fun HI XI => ?_
        walk_at "zz"
        refine ⟨.bool (isBase (.int z)), ?_, rfl, rfl, by cases isBase (.int z) <;> decide +kernel, ?_⟩
        · have e2 : isBase (.int z) = false := by
            show (decide (-9999 ≤ z) && decide (z ≤ 9999)) = _
            rw [e1]
            rfl
          rw [e2]
          rfl
        walk_at "zz"
        exact ⟨⟨_, _, _, _, _, rfl⟩, (((XE.trans XF).trans XG).trans XH).trans XI⟩
    | str x =>
      obtain ⟨ax, zx⟩ := goodD_str gd
      have sx : x.length ≤ sizeLine := small_of (by omega)
      refine useB W XF.2 (.cons (.str x) (.cons (.str "text") .nil)) (show f_has_kind [.str x, .str "text"] = some (.bool true) from congrArg (fun b => some (PyData.bool b)) ax) rfl fun HG XG => ?_
      dsimp only [valD]
      walk_at "zz"
      refine r_isD (Rp.str (C := C1 cs b D) x) ?_
      walk_at "zz"
      refine useB W XG.2 (.cons (.str x) (.cons (.str "integer") .nil)) (show f_has_kind [.str x, .str "integer"] = some (.bool false) from rfl) rfl fun HH XH => ?_
      walk_at "zz"
      refine r_isD (Rp.str (C := C1 cs b D) x) ?_
      walk_at "zz"
      refine r_isD (Rp.str (C := C1 cs b D) x) ?_
      walk_at "zz"
      refine r_lenS sx ?_
      walk_at "zz"
      have e2 : isBase (.str x) = decide ((x.length : Int) ≤ 6) := by
        show (azS x && decide (x.length ≤ 6)) = _
        rw [ax]
        by_cases l : x.length ≤ 6
        · rw [decide_eq_true l, decide_eq_true (by omega)] <;> rfl
        · rw [decide_eq_false l, decide_eq_false (by omega)] <;> rfl
      rw [← e2]
      cases hB : isBase (.str x)
      all_goals
        walk_at "zz"
        try refine r_isD (Rp.str (C := C1 cs b D) x) ?_
        walk_at "zz"
        refine useB W XH.2 (.cons (.str x) .nil) (show f_is_base [.str x] = some (.bool (isBase (.str x))) from if_pos (goodD_len gd)) rfl fun HI XI => ?_
        rw [hB]
        walk_at "zz"
        refine ⟨.bool _, rfl, rfl, rfl, by decide +kernel, ?_⟩
        walk_at "zz"
        exact ⟨⟨_, _, _, _, _, rfl⟩, (((XE.trans XF).trans XG).trans XH).trans XI⟩
  · rintro σ' H4 ⟨⟨v3, v4, v5, v6, v7, rfl⟩, X4⟩
    walk_at "zz"
    refine ⟨C1 cs b D, I1 cs b D, b, D, rfl, W, X4.2, B, fun v d H5 rv lo n1 n2 X5 => ?_⟩
    walk_at "zz"
    refine useB W X5.2 (.cons rv .nil) (show f_is_value [d] = some (.bool (isVal d)) from rfl) rfl fun H6 X6 => ?_
    rw [n1]
    walk_at "zz"
    refine useB W X6.2 (.cons (rv.mono X6.1) .nil) (show f_is_base [d] = some (.bool (isBase d)) from if_pos lo) rfl fun H7 X7 => ?_
    rw [n2]
    walk_at "zz"
    exact k _
end
end Z
namespace Z
open PySem PySem.Spec PyProof.Rows L2 GxR
theorem law_start {K : PySem.W.Frag} {cs : List (Addr × Addr)} {H : Hp} {a : Addr} {ns : List Int} (hn : ns.length ≤ 63) (hH : ∀ p ∈ cs, H p.2 = some (.tbl #[])) (hS : SqL K H a (ns.map V.int)) :
    spLaw K (cs.map (·.2)) [.ref a] H (fun v _ => v = .bl true) fun _ _ _ => False := by
  have at' : ∀ P ∈ cs.map (·.2), H P = some (.tbl #[]) := fun P hP => by
    obtain ⟨p, hp, rfl⟩ := List.mem_map.mp hP
    exact hH p hp
  refine ⟨a, ns, rfl, fun P hP => ⟨#[], at' P hP, trivial⟩, ?_, by omega, fun _ => rfl⟩
  rcases hS with h | h
  · refine Or.inl ⟨fun c => ?_, h⟩
    have e := at' a c
    rcases h with h | ⟨o, h⟩
    · rw [h] at e
      cases e
    · rw [h] at e
      cases e
  · exact Or.inr fun H' => Or.inr h
theorem facts {w : World} {h : Heap} {K : PySem.W.Frag} {mg : Str → Option Value} {f : Addr} (X : K.In h) (G : h.Ns mainGlobals mg) (hfa : mg "law" = some (.ref f)) (c : He.SaysX fas fns [] tfs exs w h K) :
    LamX.LawAtS PySem.Challenge.rw_windowtable_k00_values_in_order w K CX0 5 63 "script" mg f h := by
  have T := tx_of X G c
  have e := hfa.symm.trans T.g_law
  cases e
  obtain ⟨fd, F⟩ := T.d_law
  have out' : ∀ p ∈ tfs.map (He.cT K), K.lookup p.2 = none := fun p hp => by
    obtain ⟨q, hq, rfl⟩ := List.mem_map.mp hp
    exact c.out q hq
  refine ⟨fd, tfs.map (He.cT K), sp_law K ((tfs.map (He.cT K)).map (·.2)), fun p hp => ?_, out', fun p hp => ?_, fun s v => ?_, fun H a ns hn _ hH hS => ?_, fun base hK hN hT => ?_⟩
  · obtain ⟨q, hq, rfl⟩ := List.mem_map.mp hp
    exact c.empty q hq
  · obtain ⟨q, hq, rfl⟩ := List.mem_map.mp hp
    exact PySem.W.codeHd_of_K X (c.hd q hq)
  · exact F.bindsA (ps := ["script"]) (fun _ _ _ _ _ _ us hl => match us, hl with | [_], _ => rfl) s [v] rfl
  · exact law_start hn hH hS
  · have mem : ∀ q ∈ tfs, He.cT K q ∈ tfs.map (He.cT K) := fun q hq => List.mem_map.mpr ⟨q, hq, rfl⟩
    have memc : ∀ q ∈ tfs, (He.cT K q).2 ∈ (tfs.map (He.cT K)).map (·.2) := fun q hq => List.mem_map.mpr ⟨_, mem q hq, rfl⟩
    have G_law_draw := ok_law_draw (P := PySem.Challenge.rw_windowtable_k00_values_in_order.prog) (w := w) (base := base) (cs := (tfs.map (He.cT K)).map (·.2)) T 
    have G_law_some_value := ok_law_some_value (P := PySem.Challenge.rw_windowtable_k00_values_in_order.prog) (w := w) (base := base) (cs := (tfs.map (He.cT K)).map (·.2)) T G_law_draw
    have G_law_things := ok_law_things (P := PySem.Challenge.rw_windowtable_k00_values_in_order.prog) (w := w) (base := base) (cs := (tfs.map (He.cT K)).map (·.2)) T G_law_draw
    have G_law_cell := ok_law_cell (P := PySem.Challenge.rw_windowtable_k00_values_in_order.prog) (w := w) (base := base) (cs := (tfs.map (He.cT K)).map (·.2)) T 
    have G_law_digits := ok_law_digits (P := PySem.Challenge.rw_windowtable_k00_values_in_order.prog) (w := w) (base := base) (cs := (tfs.map (He.cT K)).map (·.2)) T G_law_cell
    have G_law_same := ok_law_same (P := PySem.Challenge.rw_windowtable_k00_values_in_order.prog) (w := w) (base := base) (cs := (tfs.map (He.cT K)).map (·.2)) T 
    have G_is_integer := ok_is_integer (P := PySem.Challenge.rw_windowtable_k00_values_in_order.prog) (w := w) (base := base) (cs := (tfs.map (He.cT K)).map (·.2)) T 
    have G_is_letters := ok_is_letters (P := PySem.Challenge.rw_windowtable_k00_values_in_order.prog) (w := w) (base := base) (cs := (tfs.map (He.cT K)).map (·.2)) T  (tabB_gx (hT _ (mem ("is_letters", none) (by simp [tfs])))) (memc ("is_letters", none) (by simp [tfs]))
    have G_is_text := ok_is_text (P := PySem.Challenge.rw_windowtable_k00_values_in_order.prog) (w := w) (base := base) (cs := (tfs.map (He.cT K)).map (·.2)) T G_is_letters
    have G_is_value := ok_is_value (P := PySem.Challenge.rw_windowtable_k00_values_in_order.prog) (w := w) (base := base) (cs := (tfs.map (He.cT K)).map (·.2)) T G_is_integer G_is_text
    have G_is_base := ok_is_base (P := PySem.Challenge.rw_windowtable_k00_values_in_order.prog) (w := w) (base := base) (cs := (tfs.map (He.cT K)).map (·.2)) T G_is_integer G_is_text
    have G_law_before := ok_law_before (P := PySem.Challenge.rw_windowtable_k00_values_in_order.prog) (w := w) (base := base) (cs := (tfs.map (He.cT K)).map (·.2)) T 
    have G_has_kind := ok_has_kind (P := PySem.Challenge.rw_windowtable_k00_values_in_order.prog) (w := w) (base := base) (cs := (tfs.map (He.cT K)).map (·.2)) T G_is_text G_is_integer
    have G_key_of := ok_key_of (P := PySem.Challenge.rw_windowtable_k00_values_in_order.prog) (w := w) (base := base) (cs := (tfs.map (He.cT K)).map (·.2)) T G_is_integer
    have G_compare := ok_compare (P := PySem.Challenge.rw_windowtable_k00_values_in_order.prog) (w := w) (base := base) (cs := (tfs.map (He.cT K)).map (·.2)) T G_key_of
    exact ok_law T G_law_some_value G_law_things G_law_digits G_law_same G_is_value G_is_base G_law_before G_has_kind G_law_draw G_compare G_key_of F
end Z
open PySem PySem.W PySem.Calls PyProof.Rows
set_option maxRecDepth 100000 in
set_option maxHeartbeats 0 in
theorem PySem.Challenge.cw_windowtable_k00_values_in_order_holds : PySem.Challenge.rw_windowtable_k00_values_in_order.Holds := by
  w_on; o_law
  refine HandSHeadRun.head_any (r := OpenLaw.row PySem.Challenge.rw_windowtable_k00_values_in_order) (q := view (OpenLaw.row PySem.Challenge.rw_windowtable_k00_values_in_order).prog [26]) (H := Z.hk) (ob := Z.ob) (M := 6000) (loose := ["__name__", "LEAST_BASE", "GREATEST_BASE", "LONGEST_BASE", "is_letters", "is_integer", "is_text", "is_value", "is_base", "has_kind", "key_of", "compare", "_law_is_integer", "_law_cell", "_law_list_is", "_law_same", "_law_digits", "_law_draw", "_law_value", "_law_columns", "_law_rows", "_law_rank", "_law_some_value", "_law_things", "_law_before"]) (d := HandSHeadRun.topDef (OpenLaw.row PySem.Challenge.rw_windowtable_k00_values_in_order).prog 26) (kwd := []) (fun s => He.obsX_eq (HandSHeadRun.getT_eq s))
    (by kernel_rfl) (fun s => by kernel_rfl) Z.run (by kernel_rfl) (by kernel_rfl) (by kernel_rfl) (by rfl) (by first | assumption | decide +kernel) (by decide +kernel) ⟨rfl, rfl, rfl, rfl, rfl, by decide +kernel⟩ ?hw ?hc
  case hw => w_witness2
  case hc =>
    refine LamX.walk_ofTsE (l := PySem.Challenge.rw_windowtable_k00_values_in_order) (n := 63) (k := 5) (x := "script") (CX := fun _ => L2.CX0) rfl (by decide) (by kernel_rfl) ⟨rfl, by decide, by decide⟩ ?F (fun _ _ _ _ _ z => z)
    intro w mg fa h Y G hmg0
    obtain ⟨K, KX, c⟩ := Y
    have hmg : mg ("law" : PySem.Str) = some (.ref fa) := by
      have e : (HandSHeadRun.topDef (OpenLaw.row PySem.Challenge.rw_windowtable_k00_values_in_order).prog 26).name = ("law" : PySem.Str) := by kernel_rfl
      rw [← e]
      exact hmg0
    exact ⟨K, KX, Z.facts KX G hmg c⟩
#print axioms PySem.Challenge.cw_windowtable_k00_values_in_order_holds
