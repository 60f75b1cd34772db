import PyProof.Rows.All
import Wide.All
import OpenK.AllK
import Wide.FinOn
import Lean
import KE.KStateDown
import KE.LtSeq
import HandS.ForMost
import HandS.Evl
import HandS.Exc
import HandS.TryOnly
import HandS.ExcOwn
import HandS.ExcInit
import HandS.ExcIs
import HandS.ExcField
import KE.KExcIs
import HandS.WordsExc
import HandS.Defaults
import HandS.Style
import HandS.Flow
import HandS.IsInst
import HandS.AnyAll
import HandS.Codes
import HandS.Conv
import HandS.Replace
import HandS.Head0
import HandS.Head1
import HandS.Head2
import HandS.HeadEnd
import HandS.HeadHook1
import HandS.HeadHook2
import HandS.HeadHook3
import HandS.HeadHook4
import HandS.HeadWalk
import HandS.TupAny
import HandS.TupMul
import HandS.FStr
import HandS.DictComp
import HandS.SetKeys
import HandS.Lambda
import HandS.SortKw
import HandS.RevRange
import KE.GoesMore
import KE.GoesEnum
import KE.GoesZip
import PySem.Challenge.RW_windowtable_k42_moves_lead
set_option Elab.async false
set_option linter.all false
set_option maxRecDepth 100000
set_option maxHeartbeats 4000000
/-! # One's own layer over the hand layer: heaps that grow, data by what it is, promises by functions -/
namespace Z
open PySem PySem.Spec PyProof.Rows L2 GxR

/-! ### heaps: what stands outside of C stays; I is known of C's objects -/
def Kp (C : Addr → Prop) (H H' : Hp) : Prop := ∀ a o, ¬ C a → H a = some o → H' a = some o
def Xt (C : Addr → Prop) (I : Hp → Prop) (H H' : Hp) : Prop := Kp C H H' ∧ I H'
theorem Kp.refl {C : Addr → Prop} (H : Hp) : Kp C H H := fun _ _ _ h => h
theorem Kp.trans {C : Addr → Prop} {A B D : Hp} (a : Kp C A B) (b : Kp C B D) : Kp C A D := fun x o n h => b x o n (a x o n h)
theorem Xt.refl {C : Addr → Prop} {I : Hp → Prop} {H : Hp} (i : I H) : Xt C I H H := ⟨Kp.refl H, i⟩
theorem Xt.trans {C : Addr → Prop} {I : Hp → Prop} {A B D : Hp} (a : Xt C I A B) (b : Xt C I B D) : Xt C I A D := ⟨a.1.trans b.1, b.2⟩
/-- C, I go together; cs: tables of code objects, that may grow -/
structure Wd (cs : List Addr) (C : Addr → Prop) (I : Hp → Prop) : Prop where
  ne : ∀ H a, I H → C a → ∃ o, H a = some o
  stay : ∀ H H', I H → (∀ a, C a → H' a = H a) → I H'
  tabC : ∀ P ∈ cs, C P
  tabG : ∀ P ∈ cs, ∀ H, I H → TabG H P
  tabS : ∀ P ∈ cs, ∀ H H', I H → TabG H' P → (∀ b, b ≠ P → H' b = H b) → I H'
section
variable {cs : List Addr} {C : Addr → Prop} {I : Hp → Prop} {H H' H1 : Hp} {p : Addr} {o : HO}
theorem Wd.new (W : Wd cs C I) (i : I H) (h : H p = none) : ¬ C p := fun c => by
  obtain ⟨o, e⟩ := W.ne H p i c
  rw [h] at e
  cases e
/-- fresh behind is fresh ahead -/
theorem Xt.old (W : Wd cs C I) (x : Xt C I H H') (h : H' p = none) : H p = none := by
  cases e : H p with
  | none => rfl
  | some o =>
    have n := W.new x.2 h
    rw [x.1 p o n e] at h
    cases h
theorem Xt.put (W : Wd cs C I) (x : Xt C I H H') (h : H' p = none) : Xt C I H (upd H' p o) := by
  have n := W.new x.2 h
  refine ⟨fun a u na e => ?_, W.stay H' _ x.2 fun a ca => upd_ne fun z => n (z ▸ ca)⟩
  have e' := x.1 a u na e
  rw [upd_ne (ne_of_none e' h)]
  exact e'
/-- an object that H does not know, and that is none of C, changes -/
theorem Xt.mut (W : Wd cs C I) (x : Xt C I H H') (h : H p = none) (n : ¬ C p) : Xt C I H (upd H' p o) := by
  refine ⟨fun a u na e => ?_, W.stay H' _ x.2 fun a ca => upd_ne fun z => n (z ▸ ca)⟩
  have e' := x.1 a u na e
  rw [upd_ne (ne_of_none e h)]
  exact e'
theorem Xt.tab (W : Wd cs C I) (x : Xt C I H H') {P : Addr} (hP : P ∈ cs) (t : Tabbed P H' H1) : Xt C I H H1 :=
  ⟨fun a u na e => by
    have e' := x.1 a u na e
    rw [t.2 a fun z => na (z ▸ W.tabC P hP)]
    exact e', W.tabS P hP H' H1 x.2 t.1 t.2⟩
end

/-! ### what a list, a tuple holds, for good -/
def StL (K : PySem.W.Frag) (C : Addr → Prop) (H : Hp) (a : Addr) (xs : List V) : Prop := (¬ C a ∧ Rd H a (.lst xs)) ∨ ∀ H', SqL K H' a xs
def StT (K : PySem.W.Frag) (C : Addr → Prop) (H : Hp) (a : Addr) (xs : List V) : Prop := (¬ C a ∧ Rd H a (.tup xs)) ∨ ∀ H', SqT K H' a xs
section
variable {K : PySem.W.Frag} {C : Addr → Prop} {I : Hp → Prop} {H H' : Hp} {a : Addr} {xs : List V} {u : HO}
theorem Kp.rd (k : Kp C H H') (n : ¬ C a) (h : Rd H a u) : Rd H' a u := by
  rcases h with h | ⟨o, h⟩
  · exact Or.inl (k a _ n h)
  · exact Or.inr ⟨o, k a _ n h⟩
theorem StL.mono (k : Kp C H H') (h : StL K C H a xs) : StL K C H' a xs := by
  rcases h with ⟨n, h⟩ | h
  · exact Or.inl ⟨n, k.rd n h⟩
  · exact Or.inr h
theorem StT.mono (k : Kp C H H') (h : StT K C H a xs) : StT K C H' a xs := by
  rcases h with ⟨n, h⟩ | h
  · exact Or.inl ⟨n, k.rd n h⟩
  · exact Or.inr h
theorem StL.sq (h : StL K C H a xs) : SqL K H a xs := by
  rcases h with ⟨_, h⟩ | h
  · exact Or.inl h
  · exact h H
theorem StT.sq (h : StT K C H a xs) : SqT K H a xs := by
  rcases h with ⟨_, h⟩ | h
  · exact Or.inl h
  · exact h H
theorem StL.of (n : ¬ C a) (h : H a = some (.lst xs)) : StL K C H a xs := Or.inl ⟨n, Or.inl h⟩
theorem StT.of (n : ¬ C a) (h : H a = some (.tup xs)) : StT K C H a xs := Or.inl ⟨n, Or.inl h⟩
end

/-- a list that may be had as it stands -/
def StM (C : Addr → Prop) (H : Hp) (a : Addr) (xs : List V) : Prop := ¬ C a ∧ H a = some (.lst xs)
section
variable {K : PySem.W.Frag} {C : Addr → Prop} {H H' : Hp} {a : Addr} {xs : List V}
theorem StM.mono (k : Kp C H H') (h : StM C H a xs) : StM C H' a xs := ⟨h.1, k a _ h.1 h.2⟩
theorem StM.sq (h : StM C H a xs) : SqL K H a xs := .of h.2
theorem StM.st (h : StM C H a xs) : StL K C H a xs := .of h.1 h.2
end

/-! ### data -/
mutual
inductive Rp (K : PySem.W.Frag) (C : Addr → Prop) (H : Hp) : V → PyData → Prop
  | non : Rp K C H .non .none
  | bl (b : Bool) : Rp K C H (.bl b) (.bool b)
  | int (i : Int) : Rp K C H (.int i) (.int i)
  | str (x : Str) : Rp K C H (.str x) (.str x)
  | lst {a : Addr} {xs : List V} {ds : List PyData} : StM C H a xs → RpAll K C H xs ds → Rp K C H (.ref a) (.list ds)
  | tup {a : Addr} {xs : List V} {ds : List PyData} : StT K C H a xs → RpAll K C H xs ds → Rp K C H (.ref a) (.tuple ds)
inductive RpAll (K : PySem.W.Frag) (C : Addr → Prop) (H : Hp) : List V → List PyData → Prop
  | nil : RpAll K C H [] []
  | cons {v : V} {vs : List V} {d : PyData} {ds : List PyData} : Rp K C H v d → RpAll K C H vs ds → RpAll K C H (v :: vs) (d :: ds)
end
section
variable {K : PySem.W.Frag} {C : Addr → Prop} {I : Hp → Prop} {H H' : Hp}
mutual
theorem Rp.mono (k : Kp C H H') : ∀ {d : PyData} {v : V}, Rp K C H v d → Rp K C H' v d
  | _, _, .non => .non
  | _, _, .bl b => .bl b
  | _, _, .int i => .int i
  | _, _, .str x => .str x
  | .list _, _, .lst s r => .lst (s.mono k) (RpAll.mono k r)
  | .tuple _, _, .tup s r => .tup (s.mono k) (RpAll.mono k r)
theorem RpAll.mono (k : Kp C H H') : ∀ {ds : List PyData} {vs : List V}, RpAll K C H vs ds → RpAll K C H' vs ds
  | [], _, .nil => .nil
  | _ :: _, _, .cons h t => .cons (Rp.mono k h) (RpAll.mono k t)
end
mutual
theorem Rp.dp : ∀ {d : PyData} {v : V}, Rp K C H v d → Dp K H v d
  | _, _, .non => .non
  | _, _, .bl b => .bl b
  | _, _, .int i => .int i
  | _, _, .str x => .str x
  | .list _, _, .lst s r => .lst s.sq (RpAll.dp r)
  | .tuple _, _, .tup s r => .tup s.sq (RpAll.dp r)
theorem RpAll.dp : ∀ {ds : List PyData} {vs : List V}, RpAll K C H vs ds → DpAll K H vs ds
  | [], _, .nil => .nil
  | _ :: _, _, .cons h t => .cons (Rp.dp h) (RpAll.dp t)
end
theorem RpAll.len : ∀ {ds : List PyData} {vs : List V}, RpAll K C H vs ds → vs.length = ds.length
  | [], _, .nil => rfl
  | _ :: _, _, .cons _ t => congrArg (· + 1) (RpAll.len t)
theorem RpAll.at : ∀ {ds : List PyData} {vs : List V} {i : Nat} {v : V}, RpAll K C H vs ds → vs[i]? = some v → ∃ d, ds[i]? = some d ∧ Rp K C H v d
  | [], _, _, _, .nil, h => by simp at h
  | d :: _, v :: _, 0, w, .cons h _, e => ⟨d, rfl, by
    have e' : v = w := by simpa using e
    rw [← e']
    exact h⟩
  | _ :: _, _ :: _, i + 1, w, .cons _ t, e => by
    obtain ⟨d, h1, h2⟩ := RpAll.at (i := i) t (by simpa using e)
    exact ⟨d, by simpa using h1, h2⟩
theorem RpAll.get : ∀ {ds : List PyData} {vs : List V} {i : Nat} {d : PyData}, RpAll K C H vs ds → ds[i]? = some d → ∃ v, vs[i]? = some v ∧ Rp K C H v d
  | [], _, _, _, .nil, h => by simp at h
  | d :: _, v :: _, 0, w, .cons h _, e => ⟨v, rfl, by
    have e' : d = w := by simpa using e
    rw [← e']
    exact h⟩
  | _ :: _, _ :: _, i + 1, w, .cons _ t, e => by
    obtain ⟨d, h1, h2⟩ := RpAll.get (i := i) t (by simpa using e)
    exact ⟨d, by simpa using h1, h2⟩
theorem RpAll.app : ∀ {ds es : List PyData} {vs ws : List V}, RpAll K C H vs ds → RpAll K C H ws es → RpAll K C H (vs ++ ws) (ds ++ es)
  | [], _, _, _, .nil, s => s
  | _ :: _, _, _, _, .cons h t, s => .cons h (RpAll.app t s)
/-- a value that is no object -/
def flatD : PyData → Bool
  | .none => true
  | .bool _ => true
  | .int _ => true
  | .str _ => true
  | _ => false
def valD : PyData → V
  | .none => .non
  | .bool b => .bl b
  | .int i => .int i
  | .str x => .str x
  | _ => .non
theorem Rp.flat {v : V} {d : PyData} (h : Rp K C H v d) (f : flatD d = true) : v = valD d := by
  cases h with
  | lst _ _ => cases f
  | tup _ _ => cases f
  | _ => rfl
theorem Rp.of_flat {d : PyData} (f : flatD d = true) : Rp K C H (valD d) d := by
  cases d with
  | none => exact .non
  | bool b => exact .bl b
  | int i => exact .int i
  | str x => exact .str x
  | _ => cases f
theorem Rp.eq_bool {v : V} {b : Bool} (h : Rp K C H v (.bool b)) : v = .bl b := h.flat rfl
theorem Rp.eq_int {v : V} {i : Int} (h : Rp K C H v (.int i)) : v = .int i := h.flat rfl
theorem Rp.eq_str {v : V} {x : Str} (h : Rp K C H v (.str x)) : v = .str x := h.flat rfl
theorem Rp.eq_non {v : V} (h : Rp K C H v .none) : v = .non := h.flat rfl
theorem RpAll.one {vs : List V} {d : PyData} (h : RpAll K C H vs [d]) : ∃ v, vs = [v] ∧ Rp K C H v d := by
  cases h with
  | cons h t =>
    cases t
    exact ⟨_, rfl, h⟩
theorem RpAll.two {vs : List V} {d e : PyData} (h : RpAll K C H vs [d, e]) : ∃ v w, vs = [v, w] ∧ Rp K C H v d ∧ Rp K C H w e := by
  cases h with
  | cons h t =>
    obtain ⟨w, rfl, h2⟩ := t.one
    exact ⟨_, _, rfl, h, h2⟩
theorem RpAll.three {vs : List V} {d e f : PyData} (h : RpAll K C H vs [d, e, f]) : ∃ v w x, vs = [v, w, x] ∧ Rp K C H v d ∧ Rp K C H w e ∧ Rp K C H x f := by
  cases h with
  | cons h t =>
    obtain ⟨w, x, rfl, h2, h3⟩ := t.two
    exact ⟨_, _, _, rfl, h, h2, h3⟩
end

/-! ### promises by functions of data -/
/-- called with data on which f tells r, hands back r; what stood stays -/
def spD (K : PySem.W.Frag) (cs : List Addr) (n : Nat) (f : List PyData → Option PyData) : Sp := fun vs H Q _ => ∃ (C : Addr → Prop) (I : Hp → Prop) (ds : List PyData) (r : PyData),
  vs.length = n ∧ Wd cs C I ∧ I H ∧ RpAll K C H vs ds ∧ f ds = some r ∧ ∀ v H', Xt C I H H' → Rp K C H' v r → Q v H'
section
variable {K : PySem.W.Frag} {cs : List Addr} {C : Addr → Prop} {I : Hp → Prop} {H : Hp} {vs : List V} {ds : List PyData} {r : PyData} {n : Nat} {f : List PyData → Option PyData} {Q : VK} {E : XK}
theorem spD_use (W : Wd cs C I) (i : I H) (hd : RpAll K C H vs ds) (hf : f ds = some r) (hn : vs.length = n := by rfl) (k : ∀ v H', Xt C I H H' → Rp K C H' v r → Q v H') : spD K cs n f vs H Q E :=
  ⟨C, I, ds, r, hn, W, i, hd, hf, k⟩
end

/-! ### defs as they are called -/
/-- the def x of the top: it keeps the promise sp at most at level k -/
structure Def (P : Program) (w : World) (K : PySem.W.Frag) (mg : Str → Option Value) (base : Heap) (CX : CXT) (x : Str) (k : Nat) (ps : List Str) (sp : Sp) : Prop where
  ok : ∃ fd, FnOk P w K mg base CX k (He.ga K x) fd ps sp ∧ Binds K fd ps []
  kp : PySem.W.keepIn K (.ref (He.ga K x)) = true
  gm : mg x = some (.ref (He.ga K x))
section
variable {P : Program} {w : World} {K : PySem.W.Frag} {mg : Str → Option Value} {base : Heap}
theorem Def.mk' {CX : CXT} {x : Str} {st : Stmt} {fd : FuncData} {N ps : List Str} {k : Nat} {sp : Sp} (F : FunD K x x (defArgs st) (defBody st) (defScope st) [] [] (He.ga K x) fd) (gm : mg x = some (.ref (He.ga K x))) (S : FnScope N ps (defScope st))
    (hb : ∀ (kV doc pm : Value) (an : Option Addr) (cdv ct : Value) (us : List Value), us.length = ps.length → bindArgs (PySem.W.fnOf x x (defArgs st) (defBody st) (defScope st) .none kV doc pm an cdv ct) ⟨us, []⟩ = pure (ps.zip us))
    (len : ∀ vs H Q E, sp vs H Q E → vs.length = ps.length)
    (hbody : ∀ (cdv : Value) (A : Around) (outer : List Env) (s : Shared) (H : Hp) (vs : List V) (Q : VK) (E : XK), Room k (A.deeper (envOfC x (defScope st) s.heap.objs.size (He.ga K x) cdv)) → sp vs H Q E →
      ∃ t, PSs (cxOf CX P w K mg base N x (defScope st) (He.ga K x) cdv A outer s H E) (defBody st) t ∧ t { nx := fun _ H' => Q .non H', rt := Q } (start N vs) H) : Def P w K mg base CX x (k + 1) ps sp :=
  ⟨⟨fd, F.ok S len hbody, F.bindsN hb⟩, F.kp, gm⟩
theorem Def.imp {CX : CXT} {x : Str} {k : Nat} {ps : List Str} {sp sp' : Sp} (D : Def P w K mg base CX x k ps sp) (h : ∀ vs H Q E, sp' vs H Q E → sp vs H Q E) : Def P w K mg base CX x k ps sp' := by
  obtain ⟨⟨fd, F, b⟩, kp, gm⟩ := D
  exact ⟨⟨fd, F.imp h, b⟩, kp, gm⟩
theorem Def.mono {CX : CXT} {x : Str} {j k : Nat} {ps : List Str} {sp : Sp} (D : Def P w K mg base CX x j ps sp) (h : j ≤ k) : Def P w K mg base CX x k ps sp := by
  obtain ⟨⟨fd, F, b⟩, kp, gm⟩ := D
  exact ⟨⟨fd, F.mono h, b⟩, kp, gm⟩
end
section
variable {X : Cx}
/-- f(e, ..), no exception leaves it -/
theorem pe_cal {x : Str} {k : Nat} {ps : List Str} {sp : Sp} {e : Expr} {es : List Expr} {t : TA} {p pos : Pos} (D : Def X.prog X.w X.K X.mg X.base CX0 x k ps sp) (hr : Room k X.A) (hg : Gl X x) (ha : PA X (e :: es) t)
    (he : starEach (e :: es) X.env = (false, eval e X.env) :: starEach es X.env := by rfl) (hpl : (backTo pos (starEach es X.env)).any (·.1) = false := by rfl) (hd : (x == ("__debug__" : Str)) = false := by decide) :
    PE X (.Call (.Name x p) (e :: es) [] pos) (tCall sp [] E0 t) := by
  obtain ⟨⟨fd, F, b⟩, kp, gm⟩ := D
  exact pe_call F hr hg gm kp b .nil pass0 ha (hdb := hd) (he := he) (hpl := hpl)
theorem pe_cal0 {x : Str} {k : Nat} {ps : List Str} {sp : Sp} {p pos : Pos} (D : Def X.prog X.w X.K X.mg X.base CX0 x k ps sp) (hr : Room k X.A) (hg : Gl X x) (hd : (x == ("__debug__" : Str)) = false := by decide) :
    PE X (.Call (.Name x p) [] [] pos) (tCall sp [] E0 tNil) := by
  obtain ⟨⟨fd, F, b⟩, kp, gm⟩ := D
  exact pe_call0 F hr hg gm kp b .nil pass0 (hdb := hd)
theorem pe_gint {x : Str} {i : Int} {pos : Pos} (hg : Gl X x) (hm : ∃ t, X.mg x = some (.int i t)) (hd : (x == ("__debug__" : Str)) = false := by decide) : PE X (.Name x pos) (tC (.int i)) := by
  obtain ⟨t, h⟩ := hm
  exact pe_glob hg h ⟨_, rfl⟩ hd
theorem pe_gstr {x z : Str} {pos : Pos} (hg : Gl X x) (hm : ∃ t, X.mg x = some (.str z t)) (hd : (x == ("__debug__" : Str)) = false := by decide) : PE X (.Name x pos) (tC (.str z)) := by
  obtain ⟨t, h⟩ := hm
  exact pe_glob hg h ⟨_, rfl⟩ hd
theorem pe_gref {x : Str} {a : Addr} {pos : Pos} (hg : Gl X x) (hm : X.mg x = some (.ref a)) (hd : (x == ("__debug__" : Str)) = false := by decide) : PE X (.Name x pos) (tC (.ref a)) := pe_glob hg hm rfl hd
end
end Z
namespace Z
open PySem PySem.Spec PyProof.Rows L2 GxR
/-! ### operators of several kinds of values at once -/
section
variable {X : Cx}
def rAddI : R2 := rI0 fun i j => .int (i + j)
def rSubI : R2 := rI0 fun i j => .int (i - j)
def rAddS : R2 := fun x y H Q => ∃ i j, x = .str i ∧ y = .str j ∧ i.length + j.length ≤ sizeLine ∧ Q (.str (i ++ j)) H
def rAddL : R2 := rCat
/-- + of ints, of texts, of lists, of tuples -/
def rAddG (K : PySem.W.Frag) : R2 := fun x y H Q => rAddI x y H Q ∨ rAddS x y H Q ∨ rCat x y H Q ∨ rCatT K x y H Q
theorem op_addG : OpR X (binaryOp .Add) (rAddG X.K) := OpR.or op_add (OpR.or op_add_str (OpR.or op_cat op_catT))
def rMulI : R2 := rI CMul fun i j => .int (i * j)
def rModI : R2 := rI (fun _ j => 0 < j) fun i j => .int (i % j)
def rDivI : R2 := rI CDiv fun i j => .int (i / j)
def rPowI : R2 := rI CPow fun i j => .int (i ^ j.toNat)
theorem op_subG : OpR X (binaryOp .Sub) rSubI := op_sub
theorem op_mulG : OpR X (binaryOp .Mult) rMulI := op_mul
theorem op_modG : OpR X (binaryOp .Mod) rModI := op_mod
theorem op_divG : OpR X (binaryOp .FloorDiv) rDivI := op_fdiv
theorem op_powG : OpR X (binaryOp .Pow) rPowI := op_pow
/-- == of scalars; of data -/
def rEqG (K : PySem.W.Frag) : R2 := fun x y H Q => rEq x y H Q ∨ rEqD K x y H Q
def rNeG (K : PySem.W.Frag) : R2 := fun x y H Q => rNe x y H Q ∨ rNeD K x y H Q
theorem op_eqG (hu : X.A.units + 64 < cLine) : OpR X (compareOp .Eq) (rEqG X.K) := OpR.or op_eq (op_eqD hu)
theorem op_neG (hu : X.A.units + 64 < cLine) : OpR X (compareOp .NotEq) (rNeG X.K) := OpR.or op_ne (op_neD hu)
/-! ### < of tuples of flat values -/
def ltV : V → V → Bool
  | .int a, .int b => decide (a < b)
  | .str a, .str b => decide (a.cps.toList < b.cps.toList)
  | .bl a, .bl b => !a && b
  | _, _ => false
/-- may be compared by < -/
def ltOk : V → V → Bool
  | .int _, .int _ => true
  | .str _, .str _ => true
  | _, _ => false
def lexV : List V → List V → Bool
  | [], [] => false
  | [], _ :: _ => true
  | _ :: _, [] => false
  | x :: xs, y :: ys => if eqV x y = true then lexV xs ys else ltV x y
/-- where the first difference lies the two may be compared -/
def lexOk : List V → List V → Bool
  | x :: xs, y :: ys => if eqV x y = true then lexOk xs ys else ltOk x y
  | _, _ => true
theorem rcLt_V {A : Around} {s : Shared} {x y : V} {u v : Value} (rx : RelV x u) (ry : RelV y v) (h : ltOk x y = true) : SeqAt.RcLt A s u v (ltV x y) := by
  intro prog w E Q q
  cases x with
  | int a =>
    cases y with
    | int b =>
      obtain ⟨t, rfl⟩ := rx
      obtain ⟨t', rfl⟩ := ry
      exact HT.rcLt_int A s a t b t' prog w E Q q
    | _ => cases h
  | str a =>
    cases y with
    | str b =>
      obtain ⟨t, rfl⟩ := rx
      obtain ⟨t', rfl⟩ := ry
      exact (PyProof.Rows.lt_str q : wpAny (model prog w) A (compareOp .Lt (.str a t) (.str b t')) Q E s)
    | _ => cases h
  | _ => cases h
end
end Z
namespace Z
open PySem PySem.SeqAt
open PySem.AutoSeq1 (wpAny_loadPart')
open PySem.MeetsSeq PySem.MeetsSeq2 PySem.MeetsSeq3
/-- from place i on, k places left: q tells which pairs are equal, m what the first other one gives, z what the lengths give -/
def lexFrom (q m : Nat → Bool) (z : Bool) : Nat → Nat → Bool
  | _, 0 => z
  | i, k + 1 => if q i = true then lexFrom q m z (i + 1) k else m i
theorem lexFrom_s {q m : Nat → Bool} {z : Bool} {i k : Nat} : lexFrom q m z i (k + 1) = if q i = true then lexFrom q m z (i + 1) k else m i := rfl
theorem lexFrom_z {q m : Nat → Bool} {z : Bool} {i : Nat} : lexFrom q m z i 0 = z := rfl
/-- t < u of two tuples: only the first pair that is not equal is compared -/
theorem tupLt_meets (a c : Addr) (us ws : Array Value) (n n' : Nat) (e1 e2 : Option Addr) (z1 z2 : Array (Option Value)) (q m : Nat → Bool) :
    Meets (Builtin.«tuple.__lt__» ⟨[.ref a, .ref c], []⟩)
      (fun A R s => s.heap.get? a = some { cls := .type "tuple", dict := e1, data := .seq us n, slots := z1 } ∧ s.heap.get? c = some { cls := .type "tuple", dict := e2, data := .seq ws n', slots := z2 } ∧
        (∀ j (h1 : j < us.size) (h2 : j < ws.size), EqAt A.in1 s us[j] ws[j] (q j)) ∧
        (∀ j (h1 : j < us.size) (h2 : j < ws.size), (∀ k, k < j → q k = true) → q j = false → RcLt A.in1 s us[j] ws[j] (m j)) ∧
        R (.ok (.ret (.bool (lexFrom q m (decide (us.size < ws.size)) 0 (min us.size ws.size))))) s) :=
  .of_wp fun prog w A R s h => by
    obtain ⟨hp, g, d, tk, os⟩ := s
    obtain ⟨ha, hc, he, hm, h⟩ := h
    have f2 := AutoSeq1.sub_tuple_tuple
    have hz : (us.toList.zip ws.toList).length = min us.size ws.size := by simp
    wp_walk using wpAny_loadPart' ha, wpAny_loadPart' hc, wpAny_forIn_list _ (fun left b s' => b.1 = none ∧ s' = ⟨hp, g, d, tk, os⟩ ∧ ∃ i, left = (us.toList.zip ws.toList).drop i ∧ (∀ k, k < i → q k = true) ∧
      R (.ok (.ret (.bool (lexFrom q m (decide (us.size < ws.size)) i (min us.size ws.size - i))))) ⟨hp, g, d, tk, os⟩) _
    case turn =>
      rintro ⟨u, v⟩ left b s' ⟨hb, rfl, i, hl, hq, hR⟩
      have lt0 : i < (us.toList.zip ws.toList).length := by
        by_cases z : i < (us.toList.zip ws.toList).length
        · exact z
        · rw [List.drop_of_length_le (Nat.le_of_not_lt z)] at hl
          cases hl
      have lt1 : i < min us.size ws.size := hz ▸ lt0
      have l1 : i < us.size := by omega
      have l2 : i < ws.size := by omega
      rw [List.drop_eq_getElem_cons lt0] at hl
      injection hl with hv hr
      have eu : u = us[i] := by
        have := congrArg Prod.fst hv
        simpa using this
      have ev : v = ws[i] := by
        have := congrArg Prod.snd hv
        simpa using this
      subst eu ev
      rw [show min us.size ws.size - i = (min us.size ws.size - (i + 1)) + 1 by omega, lexFrom_s] at hR
      refine wpAny_bind (he i l1 l2 prog w _ _ ?_)
      cases hi : q i with
      | true =>
        rw [hi, if_pos rfl] at hR
        wp_walk
        exact ⟨rfl, rfl, i + 1, hr, fun k hk => by
          by_cases z : k = i
          · rw [z]
            exact hi
          · exact hq k (by omega), hR⟩
      | false =>
        rw [hi, if_neg Bool.false_ne_true] at hR
        have hmi := hm i l1 l2 hq hi prog w
        wp_walk using hmi
        exact ⟨_, rfl, by simpa using hR⟩
    case fin =>
      rintro ⟨b1, b2⟩ s' ⟨hb, rfl, i, hl, _, hR⟩
      simp only at hb
      subst hb
      have ge0 : min us.size ws.size ≤ i := by
        by_cases z : i < (us.toList.zip ws.toList).length
        · rw [List.drop_eq_getElem_cons z] at hl
          cases hl
        · rw [← hz]
          exact Nat.le_of_not_lt z
      rw [Nat.sub_eq_zero_of_le ge0, lexFrom_z] at hR
      wp_walk
      exact ⟨_, rfl, by simpa [Builtin.Tuple.tupleCompareSizes] using hR⟩
    case h =>
      exact ⟨rfl, rfl, 0, rfl, (fun k hk => absurd hk (Nat.not_lt_zero k)), by simpa using h⟩
theorem rcLt_tup {A : Around} {s : Shared} {a c : Addr} {us ws : Array Value} {q m : Nat → Bool} (ha : s.heap.IsTuple a us) (hc : s.heap.IsTuple c ws) (hu : A.units < cLine)
    (he : ∀ j (h1 : j < us.size) (h2 : j < ws.size), EqAt A.in1 s us[j] ws[j] (q j))
    (hm : ∀ j (h1 : j < us.size) (h2 : j < ws.size), (∀ k, k < j → q k = true) → q j = false → RcLt A.in1 s us[j] ws[j] (m j)) :
    RcLt A s (.ref a) (.ref c) (lexFrom q m (decide (us.size < ws.size)) 0 (min us.size ws.size)) := fun prog w E Q h => by
  obtain ⟨⟨k1, d1, t1, z1⟩, ho, hk, n, hd⟩ := id ha
  obtain ⟨⟨k2, d2, t2, z2⟩, ho2, hk2, n', hd2⟩ := id hc
  simp only at hk hd hk2 hd2
  subst hk hd hk2 hd2
  exact richCompare_meets_room (op := .Lt) ⟨_, ho, rfl⟩ ⟨_, ho2, rfl⟩ F.slot_tuple_lt F.entry_tuple_lt (F.args_tuple_lt_2 _ _) (tupLt_meets a c us ws n n' d1 d2 z1 z2 q m) ⟨ho, ho2, he, hm, ⟨(fun x => nomatch x), h⟩⟩ hu
end Z
namespace Z
open PySem PySem.Spec PyProof.Rows L2 GxR
section
variable {X : Cx}
/-- the two tuples' first difference, by values -/
theorem lexFrom_eq : ∀ (n i : Nat) (xs ys : List V) (q m : Nat → Bool) (z : Bool), (∀ j x y, xs[j]? = some x → ys[j]? = some y → q (i + j) = eqV x y ∧ m (i + j) = ltV x y) → n = min xs.length ys.length → z = decide (xs.length < ys.length) →
    lexFrom q m z i n = lexV xs ys
  | 0, i, xs, ys, q, m, z, _, hn, hz => by
    cases xs with
    | nil => cases ys with
      | nil => exact hz
      | cons y ys => subst hz; simp [lexFrom, lexV]
    | cons x xs => cases ys with
      | nil => subst hz; simp [lexFrom, lexV]
      | cons y ys => simp at hn
  | n + 1, i, xs, ys, q, m, z, h, hn, hz => by
    cases xs with
    | nil => simp at hn
    | cons x xs => cases ys with
      | nil => simp at hn
      | cons y ys =>
        obtain ⟨h1, h2⟩ := h 0 x y rfl rfl
        rw [lexFrom_s]
        rw [show i + 0 = i from rfl] at h1 h2
        rw [h1, h2]
        show _ = if eqV x y = true then lexV xs ys else ltV x y
        have ih := lexFrom_eq n (i + 1) xs ys q m z (fun j a b ha hb => by
          have e := h (j + 1) a b (by simpa using ha) (by simpa using hb)
          rw [show i + 1 + j = i + (j + 1) by omega]
          exact e) (by simp at hn; omega) (by simpa using hz)
        rw [ih]
theorem lexOk_at : ∀ (xs ys : List V) (j : Nat) (x y : V), lexOk xs ys = true → xs[j]? = some x → ys[j]? = some y → (∀ k a b, k < j → xs[k]? = some a → ys[k]? = some b → eqV a b = true) → eqV x y = false → ltOk x y = true
  | [], _, _, _, _, _, h, _, _, _ => by simp at h
  | _ :: _, [], _, _, _, _, _, h, _, _ => by simp at h
  | a :: xs, b :: ys, 0, x, y, ok, hx, hy, _, e => by
    have e1 : a = x := by simpa using hx
    have e2 : b = y := by simpa using hy
    subst e1 e2
    have ok2 : (if eqV a b = true then lexOk xs ys else ltOk a b) = true := ok
    rw [if_neg (by rw [e]; exact Bool.false_ne_true)] at ok2
    exact ok2
  | a :: xs, b :: ys, j + 1, x, y, ok, hx, hy, hk, e => by
    have ok2 : (if eqV a b = true then lexOk xs ys else ltOk a b) = true := ok
    rw [if_pos (hk 0 a b (Nat.succ_pos j) rfl rfl)] at ok2
    exact lexOk_at xs ys j x y ok2 (by simpa using hx) (by simpa using hy) (fun k a b hl ha hb => hk (k + 1) a b (by omega) (by simpa using ha) (by simpa using hb)) e
/-- t < u of tuples of flat values -/
def rLtF (K : PySem.W.Frag) : R2 := fun x y H Q => ∃ a b xs ys, x = .ref a ∧ y = .ref b ∧ SqT K H a xs ∧ SqT K H b ys ∧ xs.all flatV = true ∧ ys.all flatV = true ∧ lexOk xs ys = true ∧ Q (.bl (lexV xs ys)) H
theorem op_ltF (hu : X.A.units < cLine) : OpR X (compareOp .Lt) (rLtF X.K) := by
  intro pins s σ H x y v u Q I rx ry h
  obtain ⟨a, b, xs, ys, rfl, rfl, ha, hb, fx, fy, ok, q⟩ := h
  cases rx
  cases ry
  obtain ⟨its, r1, p1, _⟩ := I.tuple ha
  obtain ⟨its2, r2, p2, _⟩ := I.tuple hb
  have at1 : ∀ j (h : j < its.toArray.size), ∃ z, xs[j]? = some z ∧ RelV z its.toArray[j] ∧ flatV z = true := fun j h => by
    have hj : j < xs.length := by rw [r1.length]; simpa using h
    obtain ⟨w, e1, e2⟩ := r1.get (List.getElem?_eq_getElem hj)
    have hl : j < its.length := by simpa using h
    rw [List.getElem?_eq_getElem hl] at e1
    have e3 := Option.some.inj e1
    refine ⟨xs[j], List.getElem?_eq_getElem hj, ?_, List.all_eq_true.mp fx _ (List.getElem_mem hj)⟩
    have e4 : its.toArray[j] = its[j] := by simp
    rw [e4, e3]
    exact e2
  have at2 : ∀ j (h : j < its2.toArray.size), ∃ z, ys[j]? = some z ∧ RelV z its2.toArray[j] ∧ flatV z = true := fun j h => by
    have hj : j < ys.length := by rw [r2.length]; simpa using h
    obtain ⟨w, e1, e2⟩ := r2.get (List.getElem?_eq_getElem hj)
    have hl : j < its2.length := by simpa using h
    rw [List.getElem?_eq_getElem hl] at e1
    have e3 := Option.some.inj e1
    refine ⟨ys[j], List.getElem?_eq_getElem hj, ?_, List.all_eq_true.mp fy _ (List.getElem_mem hj)⟩
    have e4 : its2.toArray[j] = its2[j] := by simp
    rw [e4, e3]
    exact e2
  have core := rcLt_tup (A := X.A) (s := s) (q := fun j => eqV (xs.getD j .non) (ys.getD j .non)) (m := fun j => ltV (xs.getD j .non) (ys.getD j .non)) p1 p2 hu
    (fun j h1 h2 => by
      obtain ⟨z, e1, e2, e3⟩ := at1 j h1
      obtain ⟨z', f1, f2, f3⟩ := at2 j h2
      have g1 : xs.getD j .non = z := by rw [List.getD_eq_getElem?_getD, e1] <;> rfl
      have g2 : ys.getD j .non = z' := by rw [List.getD_eq_getElem?_getD, f1] <;> rfl
      rw [g1, g2]
      exact eqAt_V e2 f2 e3 f3)
    (fun j h1 h2 hk hq => by
      obtain ⟨z, e1, e2, e3⟩ := at1 j h1
      obtain ⟨z', f1, f2, f3⟩ := at2 j h2
      have g1 : xs.getD j .non = z := by rw [List.getD_eq_getElem?_getD, e1] <;> rfl
      have g2 : ys.getD j .non = z' := by rw [List.getD_eq_getElem?_getD, f1] <;> rfl
      rw [g1, g2] at hq ⊢
      refine rcLt_V e2 f2 (lexOk_at xs ys j z z' ok e1 f1 (fun k a b hl ha hb => ?_) hq)
      have := hk k hl
      rw [List.getD_eq_getElem?_getD, List.getD_eq_getElem?_getD, ha, hb] at this
      exact this)
  rw [lexFrom_eq _ 0 xs ys _ _ _ (fun j x y hx hy => by
    rw [Nat.zero_add]
    constructor
    · show eqV (xs.getD j .non) (ys.getD j .non) = _
      rw [List.getD_eq_getElem?_getD, List.getD_eq_getElem?_getD, hx, hy] <;> rfl
    · show ltV (xs.getD j .non) (ys.getD j .non) = _
      rw [List.getD_eq_getElem?_getD, List.getD_eq_getElem?_getD, hx, hy] <;> rfl) (by rw [r1.length, r2.length]; simp) (by rw [r1.length, r2.length]; simp)] at core
  exact core X.prog X.w X.xe _ ⟨.bl _, H, I, rfl, q⟩
/-- < of ints, of texts, of tuples -/
def rLtI : R2 := rI0 fun i j => .bl (decide (i < j))
def rLeI : R2 := rI0 fun i j => .bl (decide (i ≤ j))
def rGtI : R2 := rI0 fun i j => .bl (decide (j < i))
def rGeI : R2 := rI0 fun i j => .bl (decide (j ≤ i))
def rLtS : R2 := fun x y H Q => ∃ i j, x = .str i ∧ y = .str j ∧ Q (.bl (decide (i.cps.toList < j.cps.toList))) H
def rLeS : R2 := fun x y H Q => ∃ i j, x = .str i ∧ y = .str j ∧ Q (.bl (!decide (j.cps.toList < i.cps.toList))) H
def rLtG (K : PySem.W.Frag) : R2 := fun x y H Q => rLtI x y H Q ∨ rLtS x y H Q ∨ rLtF K x y H Q
def rLeG : R2 := fun x y H Q => rLeI x y H Q ∨ rLeS x y H Q
theorem op_ltG (hu : X.A.units < cLine) : OpR X (compareOp .Lt) (rLtG X.K) := OpR.or op_lt (OpR.or op_lt_str (op_ltF hu))
theorem op_leG : OpR X (compareOp .LtE) rLeG := OpR.or op_le op_le_str
theorem op_gtG : OpR X (compareOp .Gt) rGtI := op_gt
theorem op_geG : OpR X (compareOp .GtE) rGeI := op_ge
/-- is, is not: None; bools -/
def rIsNn : R2 := fun x y H Q => y = .non ∧ Q (.bl (decide (x = .non))) H
def rNotNn : R2 := fun x y H Q => y = .non ∧ Q (.bl (!decide (x = .non))) H
def rIsG : R2 := fun x y H Q => rIsNn x y H Q ∨ rIsB x y H Q
def rIsNotG : R2 := fun x y H Q => rNotNn x y H Q ∨ rNotB x y H Q
theorem op_isG : OpR X (compareOp .Is) rIsG := OpR.or op_isN op_isBl
theorem op_isnG : OpR X (compareOp .IsNot) rIsNotG := OpR.or op_notN op_notBl
/-- in, not in: flat things in lists and tuples; a sign in a text -/
def rInSg : R2 := fun x y H Q => ∃ (c : Nat) (z : Str), x = .str ⟨#[c]⟩ ∧ y = .str z ∧ Q (.bl (decide (c ∈ z.cps.toList))) H
def rNinSg : R2 := fun x y H Q => ∃ (c : Nat) (z : Str), x = .str ⟨#[c]⟩ ∧ y = .str z ∧ Q (.bl (!decide (c ∈ z.cps.toList))) H
def rInG (K : PySem.W.Frag) : R2 := fun x y H Q => rIn K false x y H Q ∨ rInSg x y H Q
def rNinG (K : PySem.W.Frag) : R2 := fun x y H Q => rIn K true x y H Q ∨ rNinSg x y H Q
theorem op_inG : OpR X (compareOp .In) (rInG X.K) := OpR.or op_in_seq op_in_sign
theorem op_ninG : OpR X (compareOp .NotIn) (rNinG X.K) := OpR.or op_notIn_seq op_notIn_sign
end
end Z
namespace Z
open PySem PySem.Spec PyProof.Rows L2 GxR
/-! ### built-ins -/
theorem bt_len : bootBuiltins "len" = some (.builtin "len") := by decide +kernel
theorem bt_isinstance : bootBuiltins "isinstance" = some (.builtin "isinstance") := by decide +kernel
theorem bt_repr : bootBuiltins "repr" = some (.builtin "repr") := by decide +kernel
theorem bt_min : bootBuiltins "min" = some (.builtin "min") := by decide +kernel
theorem bt_max : bootBuiltins "max" = some (.builtin "max") := by decide +kernel
theorem bt_all : bootBuiltins "all" = some (.builtin "all") := by decide +kernel
theorem bt_any : bootBuiltins "any" = some (.builtin "any") := by decide +kernel
theorem bt_sorted : bootBuiltins "sorted" = some (.builtin "sorted") := by decide +kernel
theorem bt_sum : bootBuiltins "sum" = some (.builtin "sum") := by decide +kernel
theorem bt_int : bootBuiltins "int" = some (.type "int") := by decide +kernel
theorem bt_str : bootBuiltins "str" = some (.type "str") := by decide +kernel
theorem bt_bool : bootBuiltins "bool" = some (.type "bool") := by decide +kernel
theorem bt_list : bootBuiltins "list" = some (.type "list") := by decide +kernel
theorem bt_tuple : bootBuiltins "tuple" = some (.type "tuple") := by decide +kernel
theorem bt_dict : bootBuiltins "dict" = some (.type "dict") := by decide +kernel
theorem bt_ValueError : bootBuiltins "ValueError" = some (.type "ValueError") := by decide +kernel
section
variable {X : Cx}
/-- isinstance(x, T), T a built-in type, x data -/
def isD : PyData → String → Bool
  | .bool _, "bool" => true
  | .bool _, "int" => true
  | .int _, "int" => true
  | .str _, "str" => true
  | .list _, "list" => true
  | .tuple _, "tuple" => true
  | _, _ => false
def okT : String → Bool
  | "bool" => true
  | "int" => true
  | "str" => true
  | "list" => true
  | "tuple" => true
  | _ => false
def tyD : PyData → String
  | .none => "NoneType"
  | .bool _ => "bool"
  | .int _ => "int"
  | .str _ => "str"
  | .list _ => "list"
  | .tuple _ => "tuple"
  | .dict _ => "dict"
theorem kit_all : (["NoneType", "bool", "int", "str", "list", "tuple"].all fun a => ["bool", "int", "str", "list", "tuple"].all fun b => decide (kitB a b = some (decide (a = b) || (decide (a = "bool") && decide (b = "int"))))) = true := by decide +kernel
theorem okT_mem {n : String} (h : okT n = true) : n ∈ ["bool", "int", "str", "list", "tuple"] := by
  unfold okT at h
  split at h <;> first | exact absurd h Bool.false_ne_true | simp
theorem tyX_of {K : PySem.W.Frag} {C : Addr → Prop} {H : Hp} {v : V} {d : PyData} (h : Rp K C H v d) : TyX K H v (.type (tyD d)) ∧ tyD d ∈ ["NoneType", "bool", "int", "str", "list", "tuple"] := by
  cases h with
  | non => exact ⟨.base .non, by simp [tyD]⟩
  | bl b => exact ⟨.base (.bl b), by simp [tyD]⟩
  | int i => exact ⟨.base (.int i), by simp [tyD]⟩
  | str x => exact ⟨.base (.str x), by simp [tyD]⟩
  | lst s _ =>
    exact ⟨.base (.lst s.2), by simp [tyD]⟩
  | tup s _ =>
    refine ⟨?_, by simp [tyD]⟩
    rcases s with ⟨_, h | ⟨o, h⟩⟩ | h
    · exact .base (.tup h)
    · exact .fTuple h
    · rcases h (fun _ => none) with (z | ⟨_, z⟩) | ⟨o, its, n, hk, hc, _⟩
      · cases z
      · cases z
      · exact .kTuple hk hc
theorem isD_eq {d : PyData} {n : String} (h : okT n = true) : (decide (tyD d = n) || (decide (tyD d = "bool") && decide (n = "int"))) = isD d n := by
  have m := okT_mem h
  simp only [List.mem_cons, List.not_mem_nil, or_false] at m
  rcases m with rfl | rfl | rfl | rfl | rfl <;> cases d <;> rfl
def rIsD (K : PySem.W.Frag) : List V → Hp → VK → Prop := fun xs H Q => ∃ (v : V) (n : String) (C : Addr → Prop) (d : PyData), xs = [v, .ty n] ∧ okT n = true ∧ Rp K C H v d ∧ Q (.bl (isD d n)) H
theorem call_isD : CallR X (.builtin "isinstance") (rIsD X.K) := by
  intro pins s σ H xs us Q I r h
  obtain ⟨v, n, C, d, rfl, ok, rp, q⟩ := h
  obtain ⟨ty, m⟩ := tyX_of rp
  refine call_isi pins s σ H _ us Q I r ⟨v, .ty n, _, _, isD d n, rfl, .ty n, ty, kit_ty ?_, q⟩
  have k := List.all_eq_true.mp (List.all_eq_true.mp kit_all _ m) _ (okT_mem ok)
  have k' := of_decide_eq_true k
  rw [k', isD_eq ok]
/-- repr of data -/
def rReprD (K : PySem.W.Frag) : List V → Hp → VK → Prop := fun xs H Q => ∃ (v : V) (d : PyData), xs = [v] ∧ flatD d = true ∧ v = valD d ∧ d.showable = true ∧ d.shown.length ≤ sizeLine ∧ Q (.str d.shown) H
theorem call_reprF : CallR X (.builtin "repr") (rReprD X.K) := by
  intro pins s σ H xs us Q I r h
  obtain ⟨v, d, rfl, f, rfl, sh, sz, q⟩ := h
  obtain ⟨u, rfl, r1⟩ := vals1 r
  cases d with
  | none =>
    cases r1
    exact PySem.P.repr_of_none ⟨.str _, H, I.tok _, ⟨_, rfl⟩, q⟩
  | bool b =>
    cases r1
    exact PySem.P.repr_of_bool ⟨.str _, H, I.tok _, ⟨_, rfl⟩, q⟩
  | int i =>
    obtain ⟨t, rfl⟩ := r1
    exact PySem.P.repr_of_int (by simpa [PyData.showable] using sh) ⟨.str _, H, I.tok _, ⟨_, rfl⟩, q⟩
  | str x =>
    obtain ⟨t, rfl⟩ := r1
    exact PySem.P.repr_of_str ⟨.str _, H, I.tok _, ⟨_, rfl⟩, q⟩ (by simpa [PyData.shown] using sz)
  | _ => cases f
def rLenG (K : PySem.W.Frag) : List V → Hp → VK → Prop := fun xs H Q => (∃ p ys, xs = [.ref p] ∧ (SqL K H p ys ∨ SqT K H p ys) ∧ Q (.int ys.length) H) ∨ (∃ z, xs = [.str z] ∧ z.length ≤ sizeLine ∧ Q (.int z.length) H)
theorem call_lenG : CallR X (.builtin "len") (rLenG X.K) := CallR.or call_len_seq call_len_str
def rIntG : List V → Hp → VK → Prop := fun xs H Q => ((∃ i, xs = [.int i] ∧ Q (.int i) H) ∨ ∃ k, xs = [.bl k] ∧ Q (.int (if k then 1 else 0)) H) ∨ (∃ a n, xs = [.str a] ∧ PySem.intText? a = some n ∧ a.length ≤ 640 ∧ Q (.int n) H)
theorem call_intG : CallR X (.type "int") rIntG := CallR.or call_int1 call_int_str
def rMin2 : List V → Hp → VK → Prop := fun xs H Q => ∃ i j, xs = [.int i, .int j] ∧ Q (.int (if j < i then j else i)) H
theorem call_minG (hc : X.calm = true := by rfl) : CallR X (.builtin "min") rMin2 := call_min2 hc
/-- s[i:j] of a list, a tuple, a text -/
def rSlG (K : PySem.W.Frag) : V → Option Int → Option Int → Hp → VK → Prop := fun x lo hi H Q => rSlL K x lo hi H Q ∨ rSlT K x lo hi H Q ∨ rSlS x lo hi H Q
theorem sl_G : SlR X (rSlG X.K) := SlR.or sl_list (SlR.or sl_tup sl_str)
/-- text.index(other), found -/
def rSIndex : V → List V → Hp → VK → Prop := fun x xs H Q => ∃ a b i rest, x = .str a ∧ xs = [.str b] ∧ Builtin.Str.occurrences a b 0 a.length 1 = i :: rest ∧ Q (.int (i : Nat)) H
end
/-! ### the signs a to z -/
def azC (c : Nat) : Bool := decide (97 ≤ c) && decide (c ≤ 122)
def azS (x : Str) : Bool := x.cps.toList.all azC
theorem lt_one (a b : Nat) : decide (([a] : List Nat) < [b]) = decide (a < b) := by
  by_cases h : a < b
  · rw [decide_eq_true h, decide_eq_true (List.cons_lt_cons_iff.mpr (Or.inl h))]
  · rw [decide_eq_false h]
    refine decide_eq_false fun z => ?_
    rcases List.cons_lt_cons_iff.mp z with z | ⟨_, z⟩
    · exact h z
    · exact absurd z (by simp)
end Z
namespace Z
open PySem PySem.Spec PyProof.Rows L2 GxR
/-! ### 'a' <= x <= 'z' within a generator expression -/
section
theorem elt_between {prog : Program} {w : World} {scope : Scope} {x : Str} {lo hi : Nat} {i j : Nat} {p1 p2 p3 p4 : Pos} (hk : scope.kind = .function) (hl : scope.names.lookup x = some .local) (hd : (x == ("__debug__" : Str)) = false := by decide) :
    EltP prog w scope x (.Compare (.Constant (.str ⟨#[lo]⟩) i p1) [.LtE, .LtE] [.Name x p2, .Constant (.str ⟨#[hi]⟩) j p3] p4) (fun c => decide (lo ≤ c) && decide (c ≤ hi)) := by
  intro cenv A' E' c t s₂ m₂ hs hn hm
  have q1 : (!decide (([c] : List Nat) < [lo])) = decide (lo ≤ c) := by
    rw [lt_one]
    by_cases h : lo ≤ c
    · rw [decide_eq_true h, decide_eq_false (Nat.not_lt.mpr h)] <;> rfl
    · rw [decide_eq_false h, decide_eq_true (Nat.lt_of_not_le h)] <;> rfl
  have q2 : (!decide (([hi] : List Nat) < [c])) = decide (c ≤ hi) := by
    rw [lt_one]
    by_cases h : c ≤ hi
    · rw [decide_eq_true h, decide_eq_false (Nat.not_lt.mpr h)] <;> rfl
    · rw [decide_eq_false h, decide_eq_true (Nat.lt_of_not_le h)] <;> rfl
  refine Compare_chain (Calls.Constant_str (chain_link ?_)) (by with_unfolding_all rfl)
  refine wpAny_Name (wpAny_loadName_local (by rw [hs]; exact hk) (show cenv.scope.names.lookup x = some .local by rw [hs]; exact hl) hn hm ?_) hd
  refine PySem.P.le_str (wpAny_truthy_bool ?_)
  show (if (!decide (([c] : List Nat) < [lo])) = true then _ else _)
  rw [q1]
  cases h1 : decide (lo ≤ c) with
  | false =>
    refine ite_ff ⟨?_, keeps_tok _ _⟩
    show Value.bool false = Value.bool (decide (lo ≤ c) && decide (c ≤ hi))
    rw [h1]
    rfl
  | true =>
    refine ite_tt (chain_last (Calls.Constant_str (PySem.P.le_str ⟨?_, keeps_tok _ _⟩)))
    show Value.bool (!decide (([hi] : List Nat) < [c])) = Value.bool (decide (lo ≤ c) && decide (c ≤ hi))
    rw [q2, h1]
    rfl
end
/-! ### readings, one construct at a time -/
section
variable {K : PySem.W.Frag} {σ : L2.St} {H : Hp} {Q : VK} {QB : Bool → Hp → Prop} {QA : List V → Hp → Prop} {D : Ends} {ta tb : TE} {t u : TT} {tA tr : TA} {ts us : TS} {r : R2} {v x y : V} {i : Nat} {sp : Sp} {E : XK}
theorem r_var (h : σ[i]? = some (some v)) (k : Q v H) : tVar i σ H Q := ⟨v, h, k⟩
theorem r_c (k : Q v H) : tC v σ H Q := k
theorem r_op (k : ta σ H fun x H1 => tb σ H1 fun y H2 => r x y H2 Q) : tOp r ta tb σ H Q := k
theorem r_neg {n : Int} (k : Q (.int (-n)) H) : (rU fun i => .int (-i)) (.int n) H Q := ⟨n, rfl, k⟩
theorem r_un {f : V → Hp → VK → Prop} (k : ta σ H fun x H1 => f x H1 Q) : tUn f ta σ H Q := k
theorem r_addI {m n : Int} (k : Q (.int (m + n)) H) : rAddG K (.int m) (.int n) H Q := Or.inl ⟨m, n, rfl, rfl, k⟩
theorem r_addS {m n : Str} (h : m.length + n.length ≤ sizeLine) (k : Q (.str (m ++ n)) H) : rAddG K (.str m) (.str n) H Q := Or.inr (Or.inl ⟨m, n, rfl, rfl, h, k⟩)
theorem r_addL {a b : Addr} {xs zs : List V} (ha : H a = some (.lst xs)) (hb : H b = some (.lst zs)) (h : xs.length + zs.length ≤ sizeLine) (k : ∀ p, H p = none → Q (.ref p) (upd H p (.lst (xs ++ zs)))) : rAddG K (.ref a) (.ref b) H Q :=
  Or.inr (Or.inr (Or.inl ⟨a, b, xs, zs, rfl, rfl, ha, hb, h, k⟩))
theorem r_sub {m n : Int} (k : Q (.int (m - n)) H) : rSubI (.int m) (.int n) H Q := ⟨m, n, rfl, rfl, k⟩
theorem r_mul {m n : Int} (h : CMul m n) (k : Q (.int (m * n)) H) : rMulI (.int m) (.int n) H Q := ⟨m, n, rfl, rfl, h, k⟩
theorem r_mod {m n : Int} (h : 0 < n) (k : Q (.int (m % n)) H) : rModI (.int m) (.int n) H Q := ⟨m, n, rfl, rfl, h, k⟩
theorem r_div {m n : Int} (h : CDiv m n) (k : Q (.int (m / n)) H) : rDivI (.int m) (.int n) H Q := ⟨m, n, rfl, rfl, h, k⟩
theorem r_pow {m n : Int} (h : CPow m n) (k : Q (.int (m ^ n.toNat)) H) : rPowI (.int m) (.int n) H Q := ⟨m, n, rfl, rfl, h, k⟩
theorem r_eqS (h : scal x y = true) (k : Q (.bl (decide (x = y))) H) : rEqG K x y H Q := Or.inl ⟨h, k⟩
theorem r_neS (h : scal x y = true) (k : Q (.bl (!decide (x = y))) H) : rNeG K x y H Q := Or.inl ⟨h, k⟩
theorem r_eqI {m n : Int} (k : Q (.bl (decide (m = n))) H) : rEqG K (.int m) (.int n) H Q := Or.inl ⟨rfl, by
  rw [dec_int]
  exact cast (by rw [show (m == n) = decide (m = n) from rfl]) k⟩
theorem r_neI {m n : Int} (k : Q (.bl (!decide (m = n))) H) : rNeG K (.int m) (.int n) H Q := Or.inl ⟨rfl, by
  rw [dec_int]
  exact cast (by rw [show (m == n) = decide (m = n) from rfl]) k⟩
theorem r_eqT {m n : Str} (k : Q (.bl (decide (m = n))) H) : rEqG K (.str m) (.str n) H Q := Or.inl ⟨rfl, by
  have e : decide (V.str m = V.str n) = decide (m = n) := by
    by_cases h : m = n
    · rw [decide_eq_true h, decide_eq_true (congrArg V.str h)]
    · rw [decide_eq_false h, decide_eq_false fun z => h (V.str.inj z)]
  rw [e]
  exact k⟩
theorem r_neT {m n : Str} (k : Q (.bl (!decide (m = n))) H) : rNeG K (.str m) (.str n) H Q := Or.inl ⟨rfl, by
  have e : decide (V.str m = V.str n) = decide (m = n) := by
    by_cases h : m = n
    · rw [decide_eq_true h, decide_eq_true (congrArg V.str h)]
    · rw [decide_eq_false h, decide_eq_false fun z => h (V.str.inj z)]
  rw [e]
  exact k⟩
theorem r_neB {m n : Bool} (k : Q (.bl (m != n)) H) : rNeG K (.bl m) (.bl n) H Q := Or.inl ⟨rfl, by
  have e : (!decide (V.bl m = V.bl n)) = (m != n) := by cases m <;> cases n <;> rfl
  rw [e]
  exact k⟩
theorem r_eqD {d e : PyData} (h1 : Dp K H x d) (h2 : Dp K H y e) (h3 : SeqAt.shaped d = true) (h4 : SeqAt.shaped e = true) (k : Q (.bl (PyData.eqv d e)) H) : rEqG K x y H Q := Or.inr ⟨d, e, h1, h2, h3, h4, k⟩
theorem r_neD {d e : PyData} (h1 : Dp K H x d) (h2 : Dp K H y e) (h3 : SeqAt.shaped d = true) (h4 : SeqAt.shaped e = true) (k : Q (.bl (!PyData.eqv d e)) H) : rNeG K x y H Q := Or.inr ⟨d, e, h1, h2, h3, h4, k⟩
theorem r_ltI {m n : Int} (k : Q (.bl (decide (m < n))) H) : rLtG K (.int m) (.int n) H Q := Or.inl ⟨m, n, rfl, rfl, k⟩
theorem r_ltS {m n : Str} (k : Q (.bl (decide (m.cps.toList < n.cps.toList))) H) : rLtG K (.str m) (.str n) H Q := Or.inr (Or.inl ⟨m, n, rfl, rfl, k⟩)
theorem r_ltF {a b : Addr} {xs ys : List V} (h1 : SqT K H a xs) (h2 : SqT K H b ys) (h3 : xs.all flatV = true) (h4 : ys.all flatV = true) (h5 : lexOk xs ys = true) (k : Q (.bl (lexV xs ys)) H) : rLtG K (.ref a) (.ref b) H Q :=
  Or.inr (Or.inr ⟨a, b, xs, ys, rfl, rfl, h1, h2, h3, h4, h5, k⟩)
theorem r_leI {m n : Int} (k : Q (.bl (decide (m ≤ n))) H) : rLeG (.int m) (.int n) H Q := Or.inl ⟨m, n, rfl, rfl, k⟩
theorem r_leS {m n : Str} (k : Q (.bl (!decide (n.cps.toList < m.cps.toList))) H) : rLeG (.str m) (.str n) H Q := Or.inr ⟨m, n, rfl, rfl, k⟩
theorem r_gtI {m n : Int} (k : Q (.bl (decide (n < m))) H) : rGtI (.int m) (.int n) H Q := ⟨m, n, rfl, rfl, k⟩
theorem r_geI {m n : Int} (k : Q (.bl (decide (n ≤ m))) H) : rGeI (.int m) (.int n) H Q := ⟨m, n, rfl, rfl, k⟩
theorem r_isN (k : Q (.bl (decide (x = .non))) H) : rIsG x .non H Q := Or.inl ⟨rfl, k⟩
theorem r_isB {m n : Bool} (k : Q (.bl (decide (m = n))) H) : rIsG (.bl m) (.bl n) H Q := Or.inr ⟨m, n, rfl, rfl, k⟩
theorem r_isnN (k : Q (.bl (!decide (x = .non))) H) : rIsNotG x .non H Q := Or.inl ⟨rfl, k⟩
theorem r_isnB {m n : Bool} (k : Q (.bl (!decide (m = n))) H) : rIsNotG (.bl m) (.bl n) H Q := Or.inr ⟨m, n, rfl, rfl, k⟩
theorem r_tTest (k : ta σ H fun x H1 => ∃ b, x = .bl b ∧ QB b H1) : tTest ta σ H QB := k
theorem r_tB (k : ta σ H fun x H1 => ∃ b, x = .bl b ∧ QB b H1) : tB ta σ H QB := k
theorem r_bl {b : Bool} (k : QB b H) : ∃ c, V.bl b = .bl c ∧ QB c H := ⟨b, rfl, k⟩
theorem r_blp {b : Bool} {P : Bool → Prop} (k : P b) : ∃ c, V.bl b = .bl c ∧ P c := ⟨b, rfl, k⟩
theorem r_tNot (k : t σ H fun c H1 => QB (!c) H1) : tNot t σ H QB := k
theorem r_tAnd (k : t σ H fun c H1 => if c = true then u σ H1 QB else QB false H1) : tAnd t u σ H QB := k
theorem r_tOr (k : t σ H fun c H1 => if c = true then QB true H1 else u σ H1 QB) : tOr t u σ H QB := k
theorem r_andV (k : ta σ H fun x H1 => ∃ c, x = .bl c ∧ if c = true then tb σ H1 Q else Q (.bl false) H1) : tAndV ta tb σ H Q := k
theorem r_orV (k : ta σ H fun x H1 => ∃ c, x = .bl c ∧ if c = true then Q (.bl true) H1 else tb σ H1 Q) : tOrV ta tb σ H Q := k
theorem r_notV (k : ta σ H fun x H1 => ∃ c, x = .bl c ∧ Q (.bl (!c)) H1) : tNotV ta σ H Q := k
theorem r_ifx (k : t σ H fun c H1 => if c = true then ta σ H1 Q else tb σ H1 Q) : tIf t ta tb σ H Q := k
theorem r_chain {r' : R2} {tc : TE} (k : ta σ H fun x H1 => tb σ H1 fun y H2 => r x y H2 fun z H3 => ∃ k, z = .bl k ∧ (if k = true then tc σ H3 fun w' H4 => r' y w' H4 Q else Q (.bl false) H3)) : tChain r r' ta tb tc σ H Q := k
theorem r_if {c : Bool} {A B : Prop} (h1 : c = true → A) (h2 : c = false → B) : if c = true then A else B := by
  cases c with
  | true => exact h1 rfl
  | false => exact h2 rfl
theorem r_seq (k : ts { D with nx := us D } σ H) : tSeq ts us D σ H := k
theorem r_next (k : D.nx σ H) : tNext D σ H := k
theorem r_asg (k : ta σ H fun x H1 => D.nx (σ.set i (some x)) H1) : tAsg ta (gName i) D σ H := k
theorem r_asgG {g : TG} (k : ta σ H fun x H1 => g x σ H1 D.nx) : tAsg ta g D σ H := k
theorem r_ret (k : ta σ H fun x H1 => D.rt x H1) : tRet ta D σ H := k
theorem r_drop (k : ta σ H fun _ H1 => D.nx σ H1) : tDrop ta D σ H := k
theorem r_ifS (k : t σ H fun b H1 => if b = true then ts D σ H1 else us D σ H1) : tIfS t ts us D σ H := k
theorem r_nil (k : QA [] H) : tNil σ H QA := k
theorem r_cons (k : ta σ H fun x H1 => tr σ H1 fun xs H2 => QA (x :: xs) H2) : tCons ta tr σ H QA := k
theorem r_cal (k : tA σ H fun vs H1 => sp vs H1 Q E) : tCall sp [] E tA σ H Q := by
  have e : (fun (vs : List V) (H1 : Hp) => sp (vs ++ []) H1 Q E) = fun vs H1 => sp vs H1 Q E := by
    funext vs H1
    rw [List.append_nil]
  show tA σ H fun vs H1 => sp (vs ++ []) H1 Q E
  rw [e]
  exact k
theorem r_cb {f : List V → Hp → VK → Prop} (k : tA σ H fun vs H1 => f vs H1 Q) : tCB f tA σ H Q := k
def NewT (xs : List V) (H : Hp) (Q : VK) : Prop := xs.length ≤ sizeLine ∧ ∀ p, H p = none → Q (.ref p) (upd H p (.tup xs))
def NewL (xs : List V) (H : Hp) (Q : VK) : Prop := xs.length ≤ sizeLine ∧ ∀ p, H p = none → Q (.ref p) (upd H p (.lst xs))
theorem r_tup (k : tA σ H fun xs H1 => NewT xs H1 Q) : tTup tA σ H Q := k
theorem r_lst (k : tA σ H fun xs H1 => NewL xs H1 Q) : tLst tA σ H Q := k
theorem r_lenL {p : Addr} {xs : List V} (h : SqL K H p xs) (k : Q (.int xs.length) H) : rLenG K [.ref p] H Q := Or.inl ⟨p, xs, rfl, Or.inl h, k⟩
theorem r_lenT {p : Addr} {xs : List V} (h : SqT K H p xs) (k : Q (.int xs.length) H) : rLenG K [.ref p] H Q := Or.inl ⟨p, xs, rfl, Or.inr h, k⟩
theorem r_lenS {z : Str} (h : z.length ≤ sizeLine) (k : Q (.int z.length) H) : rLenG K [.str z] H Q := Or.inr ⟨z, rfl, h, k⟩
theorem r_intI {n : Int} (k : Q (.int n) H) : rIntG [.int n] H Q := Or.inl (Or.inl ⟨n, rfl, k⟩)
theorem r_intB {b : Bool} (k : Q (.int (if b then 1 else 0)) H) : rIntG [.bl b] H Q := Or.inl (Or.inr ⟨b, rfl, k⟩)
theorem r_isD {n : String} {C : Addr → Prop} {d : PyData} (h : Rp K C H v d) (k : Q (.bl (isD d n)) H) (ok : okT n = true := by rfl) : rIsD K [v, .ty n] H Q := ⟨v, n, C, d, rfl, ok, h, k⟩
theorem r_min {m n : Int} (k : Q (.int (if n < m then n else m)) H) : rMin2 [.int m, .int n] H Q := ⟨m, n, rfl, k⟩
theorem r_ixL {p : Addr} {xs : List V} {n : Int} (h : SqL K H p xs) (ha : atI xs n = some v) (k : Q v H) : rIx K (.ref p) (.int n) H Q := Or.inl ⟨p, xs, n, v, rfl, rfl, h, ha, k⟩
theorem r_ixT {p : Addr} {xs : List V} {n : Int} (h : SqT K H p xs) (ha : atI xs n = some v) (k : Q v H) : rIx K (.ref p) (.int n) H Q := Or.inr (Or.inl ⟨p, xs, n, v, rfl, rfl, h, ha, k⟩)
theorem r_ixS {z : Str} {n : Int} {c : Nat} (h : z.length ≤ sizeLine) (ha : atI z.cps.toList n = some c) (k : Q (.str ⟨#[c]⟩) H) : rIx K (.str z) (.int n) H Q := Or.inr (Or.inr ⟨z, n, c, rfl, rfl, h, ha, k⟩)
theorem small_of {n : Nat} (h : n ≤ 100000) : n ≤ sizeLine := Nat.le_trans h (by decide)
end
end Z
namespace Z
open PySem PySem.Spec PyProof.Rows L2 GxR
/-! ### the same within a comprehension's block, whose K is the def's -/
theorem opK {X : Cx} {K : PySem.W.Frag} {f : Value → Value → Sem Value} {r : PySem.W.Frag → R2} (h : X.K = K) (o : OpR X f (r X.K)) : OpR X f (r K) := by
  rw [← h]
  exact o
theorem callK {X : Cx} {K : PySem.W.Frag} {f : Value} {r : PySem.W.Frag → List V → Hp → VK → Prop} (h : X.K = K) (o : CallR X f (r X.K)) : CallR X f (r K) := by
  rw [← h]
  exact o
theorem ixK {X : Cx} {K : PySem.W.Frag} {r : PySem.W.Frag → R2} (h : X.K = K) (o : IxR X (r X.K)) : IxR X (r K) := by
  rw [← h]
  exact o
theorem slK {X : Cx} {K : PySem.W.Frag} {r : PySem.W.Frag → V → Option Int → Option Int → Hp → VK → Prop} (h : X.K = K) (o : SlR X (r X.K)) : SlR X (r K) := by
  rw [← h]
  exact o
end Z
namespace Z
open PySem PySem.Spec PyProof.Rows L2 GxR
section
variable {K : PySem.W.Frag} {cs : List Addr} {C : Addr → Prop} {I : Hp → Prop} {H : Hp} {vs : List V} {ds : List PyData} {n : Nat} {f : List PyData → Option PyData} {Q : VK} {E : XK}
theorem spD_len {vs : List V} {H : Hp} {Q : VK} {E : XK} (h : spD K cs n f vs H Q E) : vs.length = n := let ⟨_, _, _, _, e, _⟩ := h; e
theorem all1 (h : RpAll K C H vs ds) (e : vs.length = 1) : ∃ v d, vs = [v] ∧ ds = [d] ∧ Rp K C H v d := by
  cases h with
  | nil => cases e
  | cons h t => cases t with
    | nil => exact ⟨_, _, rfl, rfl, h⟩
    | cons _ _ => cases e
theorem all2 (h : RpAll K C H vs ds) (e : vs.length = 2) : ∃ v1 v2 d1 d2, vs = [v1, v2] ∧ ds = [d1, d2] ∧ Rp K C H v1 d1 ∧ Rp K C H v2 d2 := by
  cases h with
  | nil => cases e
  | cons h t =>
    obtain ⟨v, d, rfl, rfl, h2⟩ := all1 t (by simpa using e)
    exact ⟨_, _, _, _, rfl, rfl, h, h2⟩
theorem all3 (h : RpAll K C H vs ds) (e : vs.length = 3) : ∃ v1 v2 v3 d1 d2 d3, vs = [v1, v2, v3] ∧ ds = [d1, d2, d3] ∧ Rp K C H v1 d1 ∧ Rp K C H v2 d2 ∧ Rp K C H v3 d3 := by
  cases h with
  | nil => cases e
  | cons h t =>
    obtain ⟨v, w, d, e', rfl, rfl, h2, h3⟩ := all2 t (by simpa using e)
    exact ⟨_, _, _, _, _, _, rfl, rfl, h, h2, h3⟩
end
/-! ### values -/
def isInt : PyData → Bool
  | .int _ => true
  | _ => false
def isTxt : PyData → Bool
  | .str x => azS x
  | _ => false
def isVal : PyData → Bool
  | .none => true
  | .int _ => true
  | .str x => azS x
  | _ => false
def lenOk : PyData → Bool
  | .str x => decide (x.length ≤ sizeLine)
  | _ => true
def isBase : PyData → Bool
  | .none => true
  | .int i => decide (-9999 ≤ i) && decide (i ≤ 9999)
  | .str x => azS x && decide (x.length ≤ 6)
  | _ => false
def hasKind (d : PyData) (k : Str) : Bool := match d with
  | .none => true
  | _ => if k = "integer" then isInt d else isTxt d
def keyD : PyData → PyData
  | .none => .tuple [.int 0]
  | .int i => .tuple [.int 1, .int i]
  | d => .tuple [.int 2, d]
/-- a value that can be compared: None, an int, a text of valid signs -/
def cmpOk : PyData → Bool
  | .none => true
  | .int _ => true
  | .str x => PyData.canLay0 (.str x)
  | _ => false
/-- the order of values: nothing, ints, texts -/
def ltD : PyData → PyData → Bool
  | .none, .int _ => true
  | .none, .str _ => true
  | .int _, .str _ => true
  | .int a, .int b => decide (a < b)
  | .str a, .str b => decide (a.cps.toList < b.cps.toList)
  | _, _ => false
def eqD : PyData → PyData → Bool
  | .none, .none => true
  | .int a, .int b => decide (a = b)
  | .str a, .str b => decide (a = b)
  | _, _ => false
def cmpD (d e : PyData) : Int := if eqD d e = true then 0 else if ltD d e = true then -1 else 1
def f_is_integer : List PyData → Option PyData
  | [d] => some (.bool (isInt d))
  | _ => none
def f_is_letters : List PyData → Option PyData
  | [.str x] => some (.bool (azS x))
  | _ => none
def f_is_text : List PyData → Option PyData
  | [d] => some (.bool (isTxt d))
  | _ => none
def f_is_value : List PyData → Option PyData
  | [d] => some (.bool (isVal d))
  | _ => none
def f_is_base : List PyData → Option PyData
  | [d] => if lenOk d = true then some (.bool (isBase d)) else none
  | _ => none
def f_has_kind : List PyData → Option PyData
  | [d, .str k] => some (.bool (hasKind d k))
  | _ => none
def f_key_of : List PyData → Option PyData
  | [d] => if cmpOk d = true then some (keyD d) else none
  | _ => none
def f_compare : List PyData → Option PyData
  | [d, e] => if cmpOk d = true ∧ cmpOk e = true then some (.int (cmpD d e)) else none
  | _ => none
theorem shaped_key {d : PyData} (h : cmpOk d = true) : SeqAt.shaped (keyD d) = true := by
  cases d with
  | none => rfl
  | int i => rfl
  | str x =>
    have h' : PyData.canLay0 (.str x) = true := h
    simp [keyD, SeqAt.shaped, PyData.canLay0, PyData.canLayAll0, PyData.depth, PyData.depthAll] at h' ⊢
    exact h'
  | _ => cases h
theorem eqv_key {d e : PyData} (h : cmpOk d = true) (h' : cmpOk e = true) : PyData.eqv (keyD d) (keyD e) = eqD d e := by
  cases d <;> first | (cases h; done) | skip
  all_goals (cases e <;> first | (cases h'; done) | skip)
  all_goals simp [keyD, PyData.eqv, PyData.eqvAll, eqD]
  all_goals rfl
/-- what stands in a key -/
def keyV : PyData → List V
  | .none => [.int 0]
  | .int i => [.int 1, .int i]
  | d => [.int 2, valD d]
theorem keyV_flat {d : PyData} (h : cmpOk d = true) : (keyV d).all flatV = true := by
  cases d <;> first | (cases h; done) | rfl
theorem keyV_ok {d e : PyData} (h : cmpOk d = true) (h' : cmpOk e = true) : lexOk (keyV d) (keyV e) = true := by
  cases d <;> first | (cases h; done) | skip
  all_goals (cases e <;> first | (cases h'; done) | skip)
  all_goals simp [keyV, lexOk, eqV, ltOk, valD]
theorem keyV_lt {d e : PyData} (h : cmpOk d = true) (h' : cmpOk e = true) : lexV (keyV d) (keyV e) = ltD d e := by
  cases d <;> first | (cases h; done) | skip
  all_goals (cases e <;> first | (cases h'; done) | skip)
  all_goals simp [keyV, lexV, eqV, ltV, valD, ltD]
  · omega
  · intro z e
    rw [e] at z
    exact absurd z (Array.lt_irrefl _)
end Z
namespace Z
open PySem PySem.Spec PyProof.Rows L2 GxR
/-- a def whose code object is asked for (a generator expression stands in it) -/
theorem Def.mkG {P : Program} {w : World} {K : PySem.W.Frag} {mg : Str → Option Value} {base : Heap} {CX : CXT} {x : Str} {st : Stmt} {fd : FuncData} {N ps : List Str} {k : Nat} {sp : Sp} (F : FunD K x x (defArgs st) (defBody st) (defScope st) [] [] (He.ga K x) fd) (gm : mg x = some (.ref (He.ga K x))) (S : FnScope N ps (defScope st))
    (hb : ∀ (kV doc pm : Value) (an : Option Addr) (cdv ct : Value) (us : List Value), us.length = ps.length → bindArgs (PySem.W.fnOf x x (defArgs st) (defBody st) (defScope st) .none kV doc pm an cdv ct) ⟨us, []⟩ = pure (ps.zip us))
    (len : ∀ vs H Q E, sp vs H Q E → vs.length = ps.length)
    (hbody : ∀ (A : Around) (outer : List Env) (s : Shared) (H : Hp) (vs : List V) (Q : VK) (E : XK), Room k (A.deeper (envOfC x (defScope st) s.heap.objs.size (He.ga K x) (.ref (He.codeOf K (x, none))))) → sp vs H Q E →
      ∃ t, PSs (cxOf CX P w K mg base N x (defScope st) (He.ga K x) (.ref (He.codeOf K (x, none))) A outer s H E) (defBody st) t ∧ t { nx := fun _ H' => Q .non H', rt := Q } (start N vs) H) : Def P w K mg base CX x (k + 1) ps sp := by
  refine ⟨⟨fd, ?_, F.bindsN hb⟩, F.kp, gm⟩
  obtain ⟨oc, od, dV, kV, doc, pm, an, cdv, ct, osl, rfl, lk, hcd, hD, hK⟩ := F.ex
  obtain ⟨c, rfl⟩ := He.codeIn_ref hcd
  have e : He.codeOf K (x, none) = c := He.codeOf_eq (p := (x, none)) lk rfl
  rw [e] at hbody
  exact fn_of lk hcd S len hbody
end Z
namespace Z
open PySem PySem.Spec PyProof.Rows L2 GxR
/-- a generator expression's scope that captures nothing -/
def genSB (sc : Scope) (x : Str) : Bool := (match sc.kind with | .function => true | _ => false) && (!sc.isCoroutine) && (sc.names.all fun y => match y.2 with | .cell => false | .free => false | _ => true) &&
  decide (sc.names.lookup (".0" : Str) = some NameKind.local) && decide (sc.names.lookup x = some .local)
theorem genS_of {env : Env} {sc : Scope} {x : Str} (h : genSB sc x = true) : GenS env sc x := by
  unfold genSB at h
  simp only [Bool.and_eq_true, List.all_eq_true, decide_eq_true_eq] at h
  obtain ⟨⟨⟨⟨h1, h2⟩, h3⟩, h4⟩, h5⟩ := h
  refine ⟨?_, ?_, fun y hy e => ?_, h4, h5, fun y hy e => ?_⟩
  · cases q : sc.kind <;> rw [q] at h1 <;> first | rfl | cases h1
  · cases q : sc.isCoroutine <;> rw [q] at h2 <;> first | rfl | cases h2
  · have z := h3 y hy
    rw [e] at z
    cases z
  · have z := h3 y hy
    rw [e] at z
    cases z
/-- the length of lists that are written -/
theorem sz_lit {n : Nat} (h : Nat.ble n 1000 = true) : n ≤ sizeLine := small_of (Nat.le_trans (Nat.le_of_ble_eq_true h) (by decide))
end Z
namespace Z
open PySem PySem.Spec PyProof.Rows L2 GxR
theorem key_at {K : PySem.W.Frag} {C : Addr → Prop} {H : Hp} {v : V} {d : PyData} (l : cmpOk d = true) (h : Rp K C H v (keyD d)) : ∃ a, v = .ref a ∧ StT K C H a (keyV d) := by
  have one : ∀ {n : Int} {vs : List V}, RpAll K C H vs [.int n] → vs = [.int n] := fun h => by
    obtain ⟨w, rfl, hw⟩ := h.one
    rw [hw.eq_int]
  cases d with
  | none =>
    cases h with
    | tup s r => exact ⟨_, rfl, by rw [one r] at s; exact s⟩
  | int i =>
    cases h with
    | tup s r =>
      obtain ⟨w1, w2, rfl, h1, h2⟩ := r.two
      rw [h1.eq_int, h2.eq_int] at s
      exact ⟨_, rfl, s⟩
  | str x =>
    cases h with
    | tup s r =>
      obtain ⟨w1, w2, rfl, h1, h2⟩ := r.two
      rw [h1.eq_int, h2.eq_str] at s
      exact ⟨_, rfl, s⟩
  | _ => cases l
end Z
namespace Z
open PySem PySem.Spec PyProof.Rows L2 GxR
theorem at_start {t : TS} {D : Ends} {σ σ' : L2.St} {H : Hp} (e : σ = σ') (k : t D σ' H) : t D σ H := by
  rw [e]
  exact k
end Z
namespace Z
open PySem PySem.Spec PyProof.Rows L2 GxR
section
variable {K : PySem.W.Frag} {cs : List Addr} {C : Addr → Prop} {I : Hp → Prop} {H : Hp} {vs : List V} {ds : List PyData} {n : Nat} {f : List PyData → Option PyData} {Q : VK} {E : XK}
theorem useB {b : Bool} (W : Wd cs C I) (i : I H) (hd : RpAll K C H vs ds) (hf : f ds = some (.bool b)) (hn : vs.length = n) (k : ∀ H', Xt C I H H' → Q (.bl b) H') : spD K cs n f vs H Q E :=
  spD_use W i hd hf hn fun v H' X h => by
    rw [h.eq_bool]
    exact k H' X
theorem useI {b : Int} (W : Wd cs C I) (i : I H) (hd : RpAll K C H vs ds) (hf : f ds = some (.int b)) (hn : vs.length = n) (k : ∀ H', Xt C I H H' → Q (.int b) H') : spD K cs n f vs H Q E :=
  spD_use W i hd hf hn fun v H' X h => by
    rw [h.eq_int]
    exact k H' X
theorem useS {b : Str} (W : Wd cs C I) (i : I H) (hd : RpAll K C H vs ds) (hf : f ds = some (.str b)) (hn : vs.length = n) (k : ∀ H', Xt C I H H' → Q (.str b) H') : spD K cs n f vs H Q E :=
  spD_use W i hd hf hn fun v H' X h => by
    rw [h.eq_str]
    exact k H' X
end
end Z
namespace Z
open PySem PySem.Spec PyProof.Rows L2 GxR
/-! ### loops over ranges, lists, tuples -/
/-- what a for asks, once its iterator has come -/
def Fo (g : TG) (tb : TS) (D : Ends) (σ : L2.St) (J : It) (H1 : Hp) : Prop := ∃ W : Nat → Nat → L2.St → Hp → Prop, (∃ m, W 0 m σ H1) ∧ ∀ i m σ H, W i m σ H →
  (J.stop i H ∧ D.nx σ H) ∨
    (J.go i H ∧ ∃ N : L2.St → Hp → Prop, (∀ σ' H', N σ' H' → ∃ m', m' < m ∧ W (i + 1) m' σ' H') ∧ ∀ x H', J.yld i H x H' → g x σ H' fun σ2 H2 => tb { D with nx := N, ct := N, bk := D.nx } σ2 H2)
section
variable {K : PySem.W.Frag} {σ : L2.St} {H : Hp} {D : Ends} {ta : TA} {tl : TE} {tb : TS} {j : Nat} {wi : TI} {g : TG}
theorem r_for (k : wi σ H (Fo g tb D σ)) : tFor wi g tb D σ H := k
theorem r_irng1 {R : It → Hp → Prop} (k : ta σ H fun vs H1 => ∃ j : Int, vs = [.int j] ∧ -(2 ^ 62) ≤ j ∧ j < 2 ^ 62 ∧ R (Itr 0 j.toNat) H1) : iRng1 ta σ H R := k
theorem r_irng2 {R : It → Hp → Prop} (k : ta σ H fun vs H1 => ∃ i j : Int, vs = [.int i, .int j] ∧ (-(2 ^ 62) ≤ i ∧ i < 2 ^ 62 ∧ -(2 ^ 62) ≤ j ∧ j < 2 ^ 62) ∧ R (Itr i (j - i).toNat) H1) : iRng2 ta σ H R := k
theorem r_ilist {R : It → Hp → Prop} (k : tl σ H fun x H1 => ∃ a, x = .ref a ∧ (∃ xs, SqL K H1 a xs) ∧ R (Itl K a) H1) : iList K tl σ H R := k
theorem r_ituple {R : It → Hp → Prop} (k : tl σ H fun x H1 => ∃ a, x = .ref a ∧ (∃ xs, SqT K H1 a xs) ∧ R (Itt K a) H1) : iTup K tl σ H R := k
/-- for k in range(n) -/
theorem l_rng1 {n : Int} {m : Nat} (hm : n = (m : Int)) (hb : m ≤ 100000) (Pv : Nat → L2.St → Hp → Prop) (h0 : Pv 0 σ H)
    (hs : ∀ i σ' H', i < m → Pv i σ' H' → tb { D with nx := Pv (i + 1), ct := Pv (i + 1), bk := D.nx } (σ'.set j (some (.int (i : Int)))) H') (hd : ∀ σ' H', Pv m σ' H' → D.nx σ' H') :
    ∃ j' : Int, [V.int n] = [.int j'] ∧ -(2 ^ 62) ≤ j' ∧ j' < 2 ^ 62 ∧ Fo (gName j) tb D σ (Itr 0 j'.toNat) H := by
  subst hm
  refine ⟨m, rfl, by omega, by omega, ?_⟩
  refine for_range (lo := 0) (n := (m : Int).toNat) Pv h0 (fun i σ' H' hi p => ?_) (fun σ' H' p => hd σ' H' (by rw [Int.toNat_natCast] at p; exact p))
  show tb { D with nx := Pv (i + 1), ct := Pv (i + 1), bk := D.nx } (σ'.set j (some (.int ((0 : Int) + (i : Int))))) H'
  rw [Int.zero_add]
  exact hs i σ' H' (by rw [Int.toNat_natCast] at hi; exact hi) p
/-- for k in range(lo, n) -/
theorem l_rng2 {lo n : Int} {m : Nat} (hm : (n - lo).toNat = m) (hb : 0 ≤ lo ∧ lo ≤ 100000 ∧ -100000 ≤ n ∧ n ≤ 100000) (Pv : Nat → L2.St → Hp → Prop) (h0 : Pv 0 σ H)
    (hs : ∀ i σ' H', i < m → Pv i σ' H' → tb { D with nx := Pv (i + 1), ct := Pv (i + 1), bk := D.nx } (σ'.set j (some (.int (lo + (i : Int))))) H') (hd : ∀ σ' H', Pv m σ' H' → D.nx σ' H') :
    ∃ i' j' : Int, [V.int lo, V.int n] = [.int i', .int j'] ∧ (-(2 ^ 62) ≤ i' ∧ i' < 2 ^ 62 ∧ -(2 ^ 62) ≤ j' ∧ j' < 2 ^ 62) ∧ Fo (gName j) tb D σ (Itr i' (j' - i').toNat) H := by
  subst hm
  exact ⟨lo, n, rfl, by omega, for_range (lo := lo) (n := (n - lo).toNat) Pv h0 (fun i σ' H' hi p => hs i σ' H' hi p) hd⟩
/-- for x in list -/
theorem l_list {a : Addr} {xs : List V} (hx : SqL K H a xs) (Pv : Nat → L2.St → Hp → Prop) (h0 : Pv 0 σ H) (hl : ∀ i σ' H', i ≤ xs.length → Pv i σ' H' → SqL K H' a xs)
    (hs : ∀ i x σ' H', xs[i]? = some x → Pv i σ' H' → g x σ' H' fun σ2 H2 => tb { D with nx := Pv (i + 1), ct := Pv (i + 1), bk := D.nx } σ2 H2) (hd : ∀ σ' H', Pv xs.length σ' H' → D.nx σ' H') :
    ∃ a', V.ref a = .ref a' ∧ (∃ xs, SqL K H a' xs) ∧ Fo g tb D σ (Itl K a') H := ⟨a, rfl, ⟨xs, hx⟩, for_list Pv h0 hl hs hd⟩
theorem l_tup {a : Addr} {xs : List V} (hx : SqT K H a xs) (Pv : Nat → L2.St → Hp → Prop) (h0 : Pv 0 σ H) (hl : ∀ i σ' H', i ≤ xs.length → Pv i σ' H' → SqT K H' a xs)
    (hs : ∀ i x σ' H', xs[i]? = some x → Pv i σ' H' → g x σ' H' fun σ2 H2 => tb { D with nx := Pv (i + 1), ct := Pv (i + 1), bk := D.nx } σ2 H2) (hd : ∀ σ' H', Pv xs.length σ' H' → D.nx σ' H') :
    ∃ a', V.ref a = .ref a' ∧ (∃ xs, SqT K H a' xs) ∧ Fo g tb D σ (Itt K a') H := ⟨a, rfl, ⟨xs, hx⟩, for_tup Pv h0 hl hs hd⟩
/-- xs.append(e) -/
theorem r_bm {T : String} {r : V → List V → Hp → VK → Prop} {to : TE} {Q : VK} (k : to σ H fun x H1 => tyV K T x H1 ∧ ta σ H1 fun xs H2 => r x xs H2 Q) : tBM K T r to ta σ H Q := k
theorem ty_list {a : Addr} {xs : List V} (h : SqL K H a xs) : tyV K "list" (.ref a) H := Or.inl ⟨rfl, xs, h⟩
theorem r_app {l : Addr} {xs : List V} {y : V} {Q : VK} (h : H l = some (.lst xs)) (hz : xs.length < 100000) (k : Q .non (upd H l (.lst (xs ++ [y])))) : rAppend (.ref l) [y] H Q :=
  ⟨l, xs, y, rfl, rfl, h, Nat.lt_of_lt_of_le hz (by decide), k⟩
/-- a[i] = e -/
theorem r_gsub {to ti : TE} {t : TSet} {v : V} {QS : L2.St → Hp → Prop} (k : to σ H fun o H1 => ti σ H1 fun i H2 => t o i v H2 fun H3 => QS σ H3) : gSub to ti t v σ H QS := k
theorem r_setL {l : Addr} {xs : List V} {i : Int} {n : Nat} {v : V} {QH : Hp → Prop} (h : H l = some (.lst xs)) (e : i = (n : Int)) (hn : n < xs.length) (k : QH (upd H l (.lst (xs.set n v)))) : rSetL (.ref l) (.int i) v H QH := by
  subst e
  refine ⟨l, xs, n, n, rfl, rfl, h, ?_, k⟩
  unfold ixN
  rw [if_pos (by omega), if_pos (by omega)]
  simp
theorem r_sl {r : V → Option Int → Option Int → Hp → VK → Prop} {te : TE} {tl th : TO} {Q : VK} (k : te σ H fun x H1 => tl σ H1 fun l H2 => th σ H2 fun u H3 => r x l u H3 Q) : tSl r te tl th σ H Q := k
theorem r_nopart {Q : Option Int → Hp → Prop} (k : Q none H) : tNoPart σ H Q := k
theorem r_part {te : TE} {Q : Option Int → Hp → Prop} (k : te σ H fun x H1 => ∃ i, x = .int i ∧ Q (some i) H1) : tPart te σ H Q := k
theorem r_intp {n : Int} {P : Int → Prop} (k : P n) : ∃ i, V.int n = .int i ∧ P i := ⟨n, rfl, k⟩
theorem r_slS {z : Str} {lo hi : Option Int} {Q : VK} (h : z.length ≤ sizeLine) (k : Q (.str (cutS z lo hi)) H) : rSlG K (.str z) lo hi H Q := Or.inr (Or.inr ⟨z, rfl, h, k⟩)
theorem r_slL {a : Addr} {xs : List V} {lo hi : Option Int} {Q : VK} (h : SqL K H a xs) (k : ∀ p, H p = none → Q (.ref p) (upd H p (.lst (cutV xs lo hi)))) : rSlG K (.ref a) lo hi H Q := Or.inl ⟨a, xs, rfl, h, k⟩
theorem at_lit {xs : List V} {n : Nat} {v : V} (h : xs[n]? = some v) : atI xs (n : Int) = some v := atI_nat h
end
/-! ### the box of a law's draws -/
/-- at b the pair of the digits' list at d and the next place -/
def BoxI (b d : Addr) (H : Hp) : Prop := ∃ (n : Nat) (ms : List Int), H b = some (.lst [.ref d, .int n]) ∧ H d = some (.lst (ms.map V.int)) ∧ ∀ m ∈ ms, 0 ≤ m
structure Bx (C : Addr → Prop) (I : Hp → Prop) (b d : Addr) : Prop where
  box : ∀ H, I H → BoxI b d H
  put : ∀ (H : Hp) (n : Nat), I H → I (upd H b (.lst [.ref d, .int n]))
  cb : C b
def C0 (cs : List Addr) (a : Addr) : Prop := a ∈ cs
def I0 (cs : List Addr) (H : Hp) : Prop := ∀ P ∈ cs, TabG H P
def C1 (cs : List Addr) (b d a : Addr) : Prop := a ∈ cs ∨ a = b ∨ a = d
def I1 (cs : List Addr) (b d : Addr) (H : Hp) : Prop := (∀ P ∈ cs, TabG H P) ∧ BoxI b d H
section
variable {cs : List Addr} {b d : Addr}
theorem tabG_move {H H' : Hp} {P P' : Addr} (h : TabG H P') (t : TabG H' P) (s : ∀ b, b ≠ P → H' b = H b) : TabG H' P' := by
  by_cases e : P' = P
  · rw [e]
    exact t
  · obtain ⟨ps, h1, h2⟩ := h
    exact ⟨ps, by rw [s P' e]; exact h1, h2⟩
theorem wd0 : Wd cs (C0 cs) (I0 cs) where
  ne := fun H a i c => by
    obtain ⟨ps, h, _⟩ := i a c
    exact ⟨_, h⟩
  stay := fun H H' i s P hP => by
    obtain ⟨ps, h, t⟩ := i P hP
    exact ⟨ps, by rw [s P hP]; exact h, t⟩
  tabC := fun P hP => hP
  tabG := fun P hP H i => i P hP
  tabS := fun P hP H H' i t s P' hP' => tabG_move (i P' hP') t s
theorem wd1 : Wd cs (C1 cs b d) (I1 cs b d) where
  ne := fun H a i c => by
    rcases c with c | rfl | rfl
    · obtain ⟨ps, h, _⟩ := i.1 a c
      exact ⟨_, h⟩
    · obtain ⟨n, ms, h, _⟩ := i.2
      exact ⟨_, h⟩
    · obtain ⟨n, ms, _, h, _⟩ := i.2
      exact ⟨_, h⟩
  stay := fun H H' i s => ⟨fun P hP => by
      obtain ⟨ps, h, t⟩ := i.1 P hP
      exact ⟨ps, by rw [s P (Or.inl hP)]; exact h, t⟩, by
    obtain ⟨n, ms, h1, h2, h3⟩ := i.2
    exact ⟨n, ms, by rw [s b (Or.inr (Or.inl rfl))]; exact h1, by rw [s d (Or.inr (Or.inr rfl))]; exact h2, h3⟩⟩
  tabC := fun P hP => Or.inl hP
  tabG := fun P hP H i => i.1 P hP
  tabS := fun P hP H H' i t s => ⟨fun P' hP' => tabG_move (i.1 P' hP') t s, by
    obtain ⟨n, ms, h1, h2, h3⟩ := i.2
    obtain ⟨ps, h4, _⟩ := i.1 P hP
    exact ⟨n, ms, by rw [s b (ne_of h1 h4 (fun z => by cases z))]; exact h1, by rw [s d (ne_of h2 h4 (fun z => by cases z))]; exact h2, h3⟩⟩
theorem bx1 : Bx (C1 cs b d) (I1 cs b d) b d where
  box := fun H i => i.2
  put := fun H n i => by
    obtain ⟨m, ms, h1, h2, h3⟩ := i.2
    have ne : d ≠ b := fun z => by
      rw [z, h1] at h2
      have e := Option.some.inj h2
      injection e with e
      cases ms with
      | nil => cases e
      | cons x xs =>
        injection e with e _
        cases e
    refine ⟨fun P hP => ?_, n, ms, upd_same, by rw [upd_ne ne]; exact h2, h3⟩
    obtain ⟨ps, h4, t⟩ := i.1 P hP
    exact ⟨ps, by rw [upd_ne (ne_of h4 h1 (fun z => by cases z))]; exact h4, t⟩
  cb := Or.inr (Or.inl rfl)
/-- the box is made: from the tables alone to the tables and the box -/
theorem box_made {H1 : Hp} {ms : List Int} (i : I0 cs H1) (hd : H1 d = some (.lst (ms.map V.int))) (hm : ∀ m ∈ ms, 0 ≤ m) (hb : H1 b = none) : I1 cs b d (upd H1 b (.lst [.ref d, .int 0])) :=
  ⟨fun P hP => by
    obtain ⟨ps, h4, t⟩ := i P hP
    exact ⟨ps, by rw [upd_ne (ne_of_none h4 hb)]; exact h4, t⟩, 0, ms, upd_same, by rw [upd_ne (ne_of_none hd hb)]; exact hd, hm⟩
end
end Z
namespace Z
open PySem PySem.Spec PyProof.Rows L2 GxR
theorem Bx.xt {C : Addr → Prop} {I : Hp → Prop} {b d : Addr} {H : Hp} (B : Bx C I b d) (i : I H) (n : Nat) : Xt C I H (upd H b (.lst [.ref d, .int n])) :=
  ⟨fun a o na e => by
    have ne : a ≠ b := fun z => na (by rw [z]; exact B.cb)
    rw [upd_ne ne]
    exact e, B.put H n i⟩
/-- _law_draw(box, many): some int from 0 on, below many; the box goes on -/
def spDraw (cs : List Addr) : Sp := fun vs H Q _ => ∃ (C : Addr → Prop) (I : Hp → Prop) (b d : Addr) (many : Int), vs = [.ref b, .int many] ∧ 0 < many ∧ Wd cs C I ∧ I H ∧ Bx C I b d ∧
  ∀ (r : Int) (H' : Hp), 0 ≤ r → r < many → Xt C I H H' → Q (.int r) H'
theorem spDraw_len {cs : List Addr} {vs : List V} {H : Hp} {Q : VK} {E : XK} (h : spDraw cs vs H Q E) : vs.length = 2 := by
  obtain ⟨_, _, _, _, _, rfl, _⟩ := h
  rfl
theorem use_draw {cs : List Addr} {C : Addr → Prop} {I : Hp → Prop} {b d : Addr} {many : Int} {H : Hp} {Q : VK} {E : XK} (W : Wd cs C I) (i : I H) (B : Bx C I b d) (hm : 0 < many) (k : ∀ (r : Int) (H' : Hp), 0 ≤ r → r < many → Xt C I H H' → Q (.int r) H') :
    spDraw cs [.ref b, .int many] H Q E := ⟨C, I, b, d, many, rfl, hm, W, i, B, k⟩
/-- _law_same of the same flat value twice -/
def spSame : Sp := fun vs H Q _ => ∃ d : PyData, vs = [valD d, valD d] ∧ flatD d = true ∧ d.showable = true ∧ d.shown.length ≤ sizeLine ∧ Q (.bl true) H
theorem spSame_len {vs : List V} {H : Hp} {Q : VK} {E : XK} (h : spSame vs H Q E) : vs.length = 2 := by
  obtain ⟨_, rfl, _⟩ := h
  rfl
/-- texts of one or two letters, and the like: what a law draws -/
def goodD : PyData → Bool
  | .none => true
  | .int i => decide (-1000000000 ≤ i) && decide (i ≤ 1000000000)
  | .str x => azS x && decide (x.length ≤ 100) && PyData.canLay0 (.str x)
  | _ => false
theorem goodD_val {d : PyData} (h : goodD d = true) : isVal d = true := by
  cases d <;> first | rfl | (cases h; done) | skip
  rename_i x
  have h' : (azS x && decide (x.length ≤ 100) && PyData.canLay0 (.str x)) = true := h
  simp only [Bool.and_eq_true] at h'
  exact h'.1.1
theorem goodD_flat {d : PyData} (h : goodD d = true) : flatD d = true := by
  cases d <;> first | rfl | (cases h; done)
theorem goodD_cmp {d : PyData} (h : goodD d = true) : cmpOk d = true := by
  cases d <;> first | rfl | (cases h; done) | skip
  rename_i x
  have h' : (azS x && decide (x.length ≤ 100) && PyData.canLay0 (.str x)) = true := h
  simp only [Bool.and_eq_true] at h'
  exact h'.2
theorem goodD_len {d : PyData} (h : goodD d = true) : lenOk d = true := by
  cases d <;> first | rfl | (cases h; done) | skip
  rename_i x
  have h' : (azS x && decide (x.length ≤ 100) && PyData.canLay0 (.str x)) = true := h
  simp only [Bool.and_eq_true, decide_eq_true_eq] at h'
  exact decide_eq_true (small_of (by omega))
theorem goodD_str {x : Str} (h : goodD (.str x) = true) : azS x = true ∧ x.length ≤ 100 := by
  have h' : (azS x && decide (x.length ≤ 100) && PyData.canLay0 (.str x)) = true := h
  simp only [Bool.and_eq_true, decide_eq_true_eq] at h'
  exact h'.1
end Z
namespace Z
open PySem PySem.Spec PyProof.Rows L2 GxR
/-! ### new tuples, new lists -/
section
variable {K : PySem.W.Frag} {cs : List Addr} {C : Addr → Prop} {I : Hp → Prop} {H : Hp} {xs : List V} {ds : List PyData} {Q : VK}
theorem newT (W : Wd cs C I) (i : I H) (r : RpAll K C H xs ds) (hz : Nat.ble xs.length 100000 = true) (k : ∀ p H', H p = none → ¬ C p → Xt C I H H' → Rp K C H' (.ref p) (.tuple ds) → Q (.ref p) H') :
    NewT xs H Q := by
  refine ⟨small_of (Nat.le_of_ble_eq_true hz), fun p hp => ?_⟩
  have X := (Xt.refl i).put W hp (o := .tup xs)
  have n := W.new i hp
  exact k p _ hp n X (.tup (StT.of n upd_same) (r.mono X.1))
theorem newL (W : Wd cs C I) (i : I H) (hz : Nat.ble xs.length 100000 = true) (k : ∀ p H', H p = none → ¬ C p → Xt C I H H' → H' p = some (.lst xs) → Q (.ref p) H') :
    NewL xs H Q := by
  refine ⟨small_of (Nat.le_of_ble_eq_true hz), fun p hp => ?_⟩
  exact k p _ hp (W.new i hp) ((Xt.refl i).put W hp) upd_same
end
/-- a sign's place in the alphabet, as text.index tells it -/
theorem abc_index : ((List.range 26).all fun j => match Builtin.Str.occurrences (Str.ofString "abcdefghijklmnopqrstuvwxyz") ⟨#[97 + j]⟩ 0 (Str.ofString "abcdefghijklmnopqrstuvwxyz").length 1 with | x :: _ => decide (x = j) | [] => false) = true := by decide +kernel
theorem abc_at {c : Nat} (h : azC c = true) : ∃ rest, Builtin.Str.occurrences (Str.ofString "abcdefghijklmnopqrstuvwxyz") ⟨#[c]⟩ 0 (Str.ofString "abcdefghijklmnopqrstuvwxyz").length 1 = (c - 97) :: rest := by
  unfold azC at h
  simp only [Bool.and_eq_true, decide_eq_true_eq] at h
  have m := List.all_eq_true.mp abc_index (c - 97) (List.mem_range.mpr (by omega))
  rw [show 97 + (c - 97) = c by omega] at m
  cases e : Builtin.Str.occurrences (Str.ofString "abcdefghijklmnopqrstuvwxyz") ⟨#[c]⟩ 0 (Str.ofString "abcdefghijklmnopqrstuvwxyz").length 1 with
  | nil =>
    rw [e] at m
    cases m
  | cons x rest =>
    rw [e] at m
    rw [of_decide_eq_true m]
    exact ⟨rest, rfl⟩
/-! ### the order of lists of signs -/
theorem lex_at : ∀ (k : Nat) (xs ys : List Nat) (a b : Nat), xs.take k = ys.take k → xs[k]? = some a → ys[k]? = some b → a ≠ b → decide (xs < ys) = decide (a < b)
  | 0, [], _, _, _, _, h, _, _ => by simp at h
  | 0, _ :: _, [], _, _, _, _, h, _ => by simp at h
  | 0, x :: xs, y :: ys, a, b, _, hx, hy, ne => by
    have e1 : x = a := by simpa using hx
    have e2 : y = b := by simpa using hy
    subst e1 e2
    by_cases h : x < y
    · rw [decide_eq_true h, decide_eq_true (List.cons_lt_cons_iff.mpr (Or.inl h))]
    · rw [decide_eq_false h]
      refine decide_eq_false fun z => ?_
      rcases List.cons_lt_cons_iff.mp z with z | ⟨z, _⟩
      · exact h z
      · exact ne z
  | k + 1, [], _, _, _, _, h, _, _ => by simp at h
  | k + 1, _ :: _, [], _, _, _, _, h, _ => by simp at h
  | k + 1, x :: xs, y :: ys, a, b, ht, hx, hy, ne => by
    simp only [List.take_succ_cons] at ht
    injection ht with e1 e2
    subst e1
    have ih := lex_at k xs ys a b e2 (by simpa using hx) (by simpa using hy) ne
    rw [← ih]
    by_cases h : xs < ys
    · rw [decide_eq_true h, decide_eq_true (List.cons_lt_cons_iff.mpr (Or.inr ⟨rfl, h⟩))]
    · rw [decide_eq_false h]
      refine decide_eq_false fun z => ?_
      rcases List.cons_lt_cons_iff.mp z with z | ⟨_, z⟩
      · exact absurd z (Nat.lt_irrefl _)
      · exact h z
theorem lex_pre : ∀ (xs ys : List Nat), xs.take (min xs.length ys.length) = ys.take (min xs.length ys.length) → decide (xs < ys) = decide (xs.length < ys.length)
  | [], [], _ => by simp
  | [], y :: ys, _ => by simp
  | x :: xs, [], _ => by simp
  | x :: xs, y :: ys, h => by
    have e : min (x :: xs).length (y :: ys).length = min xs.length ys.length + 1 := by simp only [List.length_cons]; omega
    rw [e] at h
    simp only [List.take_succ_cons] at h
    injection h with e1 e2
    subst e1
    have ih := lex_pre xs ys e2
    by_cases g : xs < ys
    · rw [decide_eq_true g] at ih
      have := of_decide_eq_true ih.symm
      rw [decide_eq_true (List.cons_lt_cons_iff.mpr (Or.inr ⟨rfl, g⟩)), decide_eq_true (by simp only [List.length_cons]; omega)]
    · rw [decide_eq_false g] at ih
      have := of_decide_eq_false ih.symm
      rw [decide_eq_false (show ¬ (x :: xs).length < (x :: ys).length by simp only [List.length_cons]; omega)]
      refine decide_eq_false fun z => ?_
      rcases List.cons_lt_cons_iff.mp z with z | ⟨_, z⟩
      · exact absurd z (Nat.lt_irrefl _)
      · exact g z
/-- what _law_before counts of a value: 0 for nothing, 1 for an int, 2 for a text -/
def kdD : PyData → Int
  | .none => 0
  | .str _ => 2
  | _ => 1
end Z
namespace Z
open PySem PySem.Spec PyProof.Rows L2 GxR
/-! ### comprehensions whose elements are data -/
section
variable {K : PySem.W.Frag} {cs : List Addr} {C C' : Addr → Prop} {I : Hp → Prop} {H H' : Hp} {D : Addr}
/-- the new list at D beside C -/
def CD (C : Addr → Prop) (D a : Addr) : Prop := C a ∨ a = D
def ID (I : Hp → Prop) (D : Addr) (xs : List V) (H : Hp) : Prop := I H ∧ H D = some (.lst xs)
theorem wdD {acc : List V} (W : Wd cs C I) (n : ¬ C D) : Wd cs (CD C D) (ID I D acc) where
  ne := fun H a i c => by
    rcases c with c | rfl
    · exact W.ne H a i.1 c
    · exact ⟨_, i.2⟩
  stay := fun H H' i s => ⟨W.stay H H' i.1 fun a c => s a (Or.inl c), by
    rw [s D (Or.inr rfl)]
    exact i.2⟩
  tabC := fun P hP => Or.inl (W.tabC P hP)
  tabG := fun P hP H i => W.tabG P hP H i.1
  tabS := fun P hP H H' i t s => ⟨W.tabS P hP H H' i.1 t s, by
    rw [s D fun z => n (by rw [z]; exact W.tabC P hP)]
    exact i.2⟩
theorem bxD {acc : List V} {b d : Addr} (B : Bx C I b d) (n : ¬ C D) : Bx (CD C D) (ID I D acc) b d where
  box := fun H i => B.box H i.1
  put := fun H m i => ⟨B.put H m i.1, by
    rw [upd_ne fun z => n (by rw [z]; exact B.cb)]
    exact i.2⟩
  cb := Or.inl B.cb
theorem StL.less {a : Addr} {xs : List V} (le : ∀ a, C a → C' a) (h : StL K C' H a xs) : StL K C H a xs := by
  rcases h with ⟨n, h⟩ | h
  · exact Or.inl ⟨fun c => n (le a c), h⟩
  · exact Or.inr h
theorem StT.less {a : Addr} {xs : List V} (le : ∀ a, C a → C' a) (h : StT K C' H a xs) : StT K C H a xs := by
  rcases h with ⟨n, h⟩ | h
  · exact Or.inl ⟨fun c => n (le a c), h⟩
  · exact Or.inr h
theorem StM.less {a : Addr} {xs : List V} (le : ∀ a, C a → C' a) (h : StM C' H a xs) : StM C H a xs := ⟨fun c => h.1 (le a c), h.2⟩
mutual
theorem Rp.less (le : ∀ a, C a → C' a) : ∀ {d : PyData} {v : V}, Rp K C' H v d → Rp K C H v d
  | _, _, .non => .non
  | _, _, .bl b => .bl b
  | _, _, .int i => .int i
  | _, _, .str x => .str x
  | .list _, _, .lst s r => .lst (s.less le) (RpAll.less le r)
  | .tuple _, _, .tup s r => .tup (s.less le) (RpAll.less le r)
theorem RpAll.less (le : ∀ a, C a → C' a) : ∀ {ds : List PyData} {vs : List V}, RpAll K C' H vs ds → RpAll K C H vs ds
  | [], _, .nil => .nil
  | _ :: _, _, .cons h t => .cons (Rp.less le h) (RpAll.less le t)
end
/-- what H knows does not lie at D, of which H knows nothing -/
theorem rd_ne {a : Addr} {u : HO} (h : Rd H a u) (hD : H D = none) : a ≠ D := by
  rcases h with h | ⟨o, h⟩
  · exact ne_of_none h hD
  · exact ne_of_none h hD
theorem StL.more {a : Addr} {xs : List V} (hD : H D = none) (k : Kp C H H') (h : StL K C H a xs) : StL K (CD C D) H' a xs := by
  rcases h with ⟨n, h⟩ | h
  · exact Or.inl ⟨fun c => c.elim n (rd_ne h hD), k.rd n h⟩
  · exact Or.inr h
theorem StT.more {a : Addr} {xs : List V} (hD : H D = none) (k : Kp C H H') (h : StT K C H a xs) : StT K (CD C D) H' a xs := by
  rcases h with ⟨n, h⟩ | h
  · exact Or.inl ⟨fun c => c.elim n (rd_ne h hD), k.rd n h⟩
  · exact Or.inr h
theorem StM.more {a : Addr} {xs : List V} (hD : H D = none) (k : Kp C H H') (h : StM C H a xs) : StM (CD C D) H' a xs := ⟨fun c => c.elim h.1 (ne_of_none h.2 hD), k a _ h.1 h.2⟩
mutual
theorem Rp.more (hD : H D = none) (k : Kp C H H') : ∀ {d : PyData} {v : V}, Rp K C H v d → Rp K (CD C D) H' v d
  | _, _, .non => .non
  | _, _, .bl b => .bl b
  | _, _, .int i => .int i
  | _, _, .str x => .str x
  | .list _, _, .lst s r => .lst (s.more hD k) (RpAll.more hD k r)
  | .tuple _, _, .tup s r => .tup (s.more hD k) (RpAll.more hD k r)
theorem RpAll.more (hD : H D = none) (k : Kp C H H') : ∀ {ds : List PyData} {vs : List V}, RpAll K C H vs ds → RpAll K (CD C D) H' vs ds
  | [], _, .nil => .nil
  | _ :: _, _, .cons h t => .cons (Rp.more hD k h) (RpAll.more hD k t)
end
/-- what is known within a turn: the context C', I' at H', and how what was known ahead comes over -/
structure Tn (K : PySem.W.Frag) (cs : List Addr) (C : Addr → Prop) (I : Hp → Prop) (H : Hp) (C' : Addr → Prop) (I' : Hp → Prop) (H' : Hp) : Prop where
  W : Wd cs C' I'
  i : I' H'
  rp : ∀ {v d}, Rp K C H v d → Rp K C' H' v d
  stL : ∀ {a xs}, StL K C H a xs → StL K C' H' a xs
  stT : ∀ {a xs}, StT K C H a xs → StT K C' H' a xs
  bx : ∀ {b d}, Bx C I b d → Bx C' I' b d
/-- what a comprehension asks, once its iterator has come -/
def Lc (g : TG) (tt : TT) (te : TE) (vs : List Nat) (σ : L2.St) (Q : VK) (J : It) (H1 : Hp) : Prop := ∀ D, H1 D = none → ∃ W : Nat → Nat → Hp → Prop, (∃ m, W 0 m (upd H1 D (.lst []))) ∧ ∀ i m H, W i m H →
  (J.stop i H ∧ Q (.ref D) H) ∨ (J.go i H ∧ ∃ Nx : Hp → Prop, (∀ H', Nx H' → ∃ m', m' < m ∧ W (i + 1) m' H') ∧ ∀ x H', J.yld i H x H' → g x (wipe σ vs) H' fun σ2 H2 => wipe σ2 vs = wipe σ vs ∧ tt σ2 H2 fun b H3 =>
    if b = true then te σ2 H3 fun y H4 => ∃ acc, H4 D = some (.lst acc) ∧ acc.length < sizeLine ∧ Nx (upd H4 D (.lst (acc ++ [y]))) else Nx H3)
variable {σ : L2.St} {g : TG} {tt : TT} {te : TE} {vs : List Nat} {wi : TI} {Q : VK} {a : Addr} {xs : List V}
theorem r_lc (k : wi σ H (Lc g tt te vs σ Q)) : tLc wi g tt te vs σ H Q := k
/-- one turn of a comprehension: from the j-th item the j-th datum -/
def Turns (K : PySem.W.Frag) (cs : List Addr) (C : Addr → Prop) (I : Hp → Prop) (H : Hp) (g : TG) (te : TE) (vs : List Nat) (σ : L2.St) (xs : List V) (ds : List PyData) : Prop :=
  ∀ (j : Nat) (x : V) (d : PyData) (C' : Addr → Prop) (I' : Hp → Prop) (H' : Hp), xs[j]? = some x → ds[j]? = some d → Tn K cs C I H C' I' H' → ∀ Q' : VK, (∀ y H4, Xt C' I' H' H4 → Rp K C' H4 y d → Q' y H4) → g x (wipe σ vs) H' fun σ2 H2 => wipe σ2 vs = wipe σ vs ∧ te σ2 H2 Q'
/-- what holds between two turns -/
def LcInv (K : PySem.W.Frag) (C : Addr → Prop) (I : Hp → Prop) (H : Hp) (D : Addr) (ds : List PyData) (i : Nat) (H' : Hp) : Prop := Xt C I H H' ∧ ∃ acc, H' D = some (.lst acc) ∧ RpAll K (CD C D) H' acc (ds.take i)
theorem lcInv_step (W : Wd cs C I) (hD : H D = none) (n : ¬ C D) {ds : List PyData} {i : Nat} {H' : Hp} {x : V} (h : LcInv K C I H D ds i H') (hi : i < ds.length) (hz : ds.length ≤ 100000) (hx : xs[i]? = some x) (turn : Turns K cs C I H g te vs σ xs ds)
    {Nx : Hp → Prop} (hN : ∀ H'', LcInv K C I H D ds (i + 1) H'' → Nx H'') :
    g x (wipe σ vs) H' fun σ2 H2 => wipe σ2 vs = wipe σ vs ∧ te σ2 H2 fun y H4 => ∃ acc, H4 D = some (.lst acc) ∧ acc.length < sizeLine ∧ Nx (upd H4 D (.lst (acc ++ [y]))) := by
  obtain ⟨X, acc, ha, hr⟩ := h
  have W' := wdD (D := D) (acc := acc) W n
  have hlen : acc.length = i := by
    rw [hr.len, List.length_take]
    omega
  refine turn i x (ds[i]) (CD C D) (ID I D acc) H' hx (List.getElem?_eq_getElem hi) ⟨W', ⟨X.2, ha⟩, fun r => r.more hD X.1, fun r => r.more hD X.1, fun r => r.more hD X.1, fun B => bxD B n⟩ _ fun y H4 X4 r4 => ?_
  have hy : H4 D = some (.lst acc) := X4.2.2
  refine ⟨acc, hy, Nat.lt_of_lt_of_le (show acc.length < 100000 by omega) (by decide), hN _ ⟨?_, acc ++ [y], upd_same, ?_⟩⟩
  · refine ⟨fun b u nb e => ?_, W.stay _ _ X4.2.1 fun b cb => upd_ne fun z => n (by rw [← z]; exact cb)⟩
    have hb : b ≠ D := ne_of_none e hD
    rw [upd_ne hb]
    exact X4.1 b u (fun c => c.elim nb hb) (X.1 b u nb e)
  · have e : ds.take (i + 1) = ds.take i ++ [ds[i]] := by
      rw [List.take_succ, List.getElem?_eq_getElem hi]
      rfl
    have kp : Kp (CD C D) H4 (upd H4 D (.lst (acc ++ [y]))) := fun b u nb e => by
      rw [upd_ne fun z => nb (Or.inr z)]
      exact e
    rw [e]
    exact ((hr.mono X4.1).mono kp).app (.cons (r4.mono kp) .nil)
/-- over a tuple -/
theorem l_lcT (W : Wd cs C I) (i0 : I H) (hx : StT K C H a xs) {ds : List PyData} (hl : xs.length = ds.length) (hz : ds.length ≤ 100000) (turn : Turns K cs C I H g te vs σ xs ds)
    (k : ∀ (D : Addr) (ys : List V) (H' : Hp), H D = none → ¬ C D → Xt C I H H' → H' D = some (.lst ys) → RpAll K C H' ys ds → Q (.ref D) H') :
    ∃ a', V.ref a = .ref a' ∧ (∃ xs, SqT K H a' xs) ∧ Lc g tYes te vs σ Q (Itt K a') H := by
  refine ⟨a, rfl, ⟨xs, hx.sq⟩, fun D hD => ?_⟩
  have n := W.new i0 hD
  refine lc_tup (K := K) (a := a) (xs := xs) (fun i H' => LcInv K C I H D ds i H') ⟨(Xt.refl i0).put W hD, [], upd_same, .nil⟩ (fun i H' _ p => (hx.mono p.1.1).sq) (fun i x H' hxi p => ?_) (fun H' p => ?_)
  · have hi : i < ds.length := by
      rw [← hl]
      exact (List.getElem?_eq_some_iff.mp hxi).1
    exact lcInv_step W hD n p hi hz hxi turn fun _ q => q
  · obtain ⟨X, acc, ha, hr⟩ := p
    rw [hl, List.take_length] at hr
    exact k D acc H' hD n X ha (hr.less fun _ c => Or.inl c)
/-- over a list -/
theorem l_lcL (W : Wd cs C I) (i0 : I H) (hx : StL K C H a xs) {ds : List PyData} (hl : xs.length = ds.length) (hz : ds.length ≤ 100000) (turn : Turns K cs C I H g te vs σ xs ds)
    (k : ∀ (D : Addr) (ys : List V) (H' : Hp), H D = none → ¬ C D → Xt C I H H' → H' D = some (.lst ys) → RpAll K C H' ys ds → Q (.ref D) H') :
    ∃ a', V.ref a = .ref a' ∧ (∃ xs, SqL K H a' xs) ∧ Lc g tYes te vs σ Q (Itl K a') H := by
  refine ⟨a, rfl, ⟨xs, hx.sq⟩, fun D hD => ?_⟩
  have n := W.new i0 hD
  refine lc_list (K := K) (a := a) (xs := xs) (fun i H' => LcInv K C I H D ds i H') ⟨(Xt.refl i0).put W hD, [], upd_same, .nil⟩ (fun i H' _ p => (hx.mono p.1.1).sq) (fun i x H' hxi p => ?_) (fun H' p => ?_)
  · have hi : i < ds.length := by
      rw [← hl]
      exact (List.getElem?_eq_some_iff.mp hxi).1
    exact lcInv_step W hD n p hi hz hxi turn fun _ q => q
  · obtain ⟨X, acc, ha, hr⟩ := p
    rw [hl, List.take_length] at hr
    exact k D acc H' hD n X ha (hr.less fun _ c => Or.inl c)
end
end Z
namespace Z
open PySem PySem.Spec PyProof.Rows L2 GxR
section
variable {K : PySem.W.Frag} {cs : List Addr} {C : Addr → Prop} {I : Hp → Prop} {H : Hp} {xs : List V} {Q : VK}
theorem newTS (W : Wd cs C I) (i : I H) (hz : Nat.ble xs.length 100000 = true) (k : ∀ p H', H p = none → ¬ C p → Xt C I H H' → StT K C H' p xs → Q (.ref p) H') : NewT xs H Q := by
  refine ⟨small_of (Nat.le_of_ble_eq_true hz), fun p hp => ?_⟩
  have n := W.new i hp
  exact k p _ hp n ((Xt.refl i).put W hp) (StT.of n upd_same)
theorem len_cps (x : Str) : x.cps.toList.length = x.length := by
  show x.cps.toList.length = x.cps.size
  simp
theorem az_at {x : Str} (h : azS x = true) {j c : Nat} (e : x.cps.toList[j]? = some c) : azC c = true := List.all_eq_true.mp h c (List.mem_of_getElem? e)
theorem azC_ge {c : Nat} (h : azC c = true) : 97 ≤ c := by
  unfold azC at h
  simp only [Bool.and_eq_true, decide_eq_true_eq] at h
  exact h.1
theorem one_inj {a b : Nat} : (decide ((⟨#[a]⟩ : Str) = ⟨#[b]⟩)) = decide (a = b) := by
  by_cases h : a = b
  · subst h
    rw [decide_eq_true rfl, decide_eq_true rfl]
  · rw [decide_eq_false h]
    refine decide_eq_false fun z => h ?_
    injection z with z
    injection z with z
    injection z
end
end Z
namespace Z
theorem r_iT {A B : Prop} (k : A) : if true = true then A else B := k
theorem r_iF {A B : Prop} (k : B) : if false = true then A else B := k
theorem r_inT {A B : Prop} (k : B) : if (!true) = true then A else B := k
theorem r_inF {A B : Prop} (k : A) : if (!false) = true then A else B := k
theorem r_cT {c : Bool} {A B : Prop} (h : c = true) (k : A) : if c = true then A else B := by
  rw [h]
  exact k
theorem r_cF {c : Bool} {A B : Prop} (h : c = false) (k : B) : if c = true then A else B := by
  rw [h]
  exact k
end Z

namespace Z
theorem tabB_gx {base : PySem.Heap} {mg : PySem.Str → Option PySem.Value} {c P : PySem.Addr} (t : LamX.TabB base mg c P) : GxR.TabB base mg c P := ⟨t.code, t.bm, t.gP⟩
end Z
/-! # repr of nested data: defs that are called where no repr is under way -/
namespace Z
open PySem PySem.Spec PyProof.Rows L2 GxR
/-- a promise that is kept where no repr is under way -/
structure FnG (P : Program) (w : World) (K : PySem.W.Frag) (mg : Str → Option Value) (base : Heap) (CX : CXT) (k : Nat) (f : Addr) (fd : FuncData) (ps : List Str) (sp : Sp) : Prop where
  ar : ∀ xs G Q E, sp xs G Q E → xs.length = ps.length
  go : ∀ (A : Around) (fr : List Env) (s : Shared) (G : Hp) (bound : Args) (us : List Value) (xs : List V) (Q : VK) (E : XK), A.guards = some [] → Room k A → Env0 P w K mg base A fr s G → BindsTo s fd bound (ps.zip us) → Vals xs us → sp xs G Q E →
    codeAny (model P w) A (.call (.ref f) bound) (CR CX fr P w G s Q E) s
section
variable {P : Program} {w : World} {K : PySem.W.Frag} {mg : Str → Option Value} {base : Heap} {CX : CXT} {k j : Nat} {f : Addr} {fd : FuncData} {ps : List Str} {sp : Sp}
theorem FnG.of (F : FnOk P w K mg base CX k f fd ps sp) : FnG P w K mg base CX k f fd ps sp :=
  ⟨F.len, fun A fr s G bound us xs Q E _ hr e0 hb hv h => F.run A fr s G bound us xs Q E hr e0 hb hv h⟩
theorem FnG.mono (F : FnG P w K mg base CX j f fd ps sp) (h : j ≤ k) : FnG P w K mg base CX k f fd ps sp :=
  ⟨F.ar, fun A fr s G bound us xs Q E gu hr => F.go A fr s G bound us xs Q E gu (hr.mono h)⟩
/-- the frame's guards are the caller's -/
theorem guards_deeper {A : Around} {env : Env} (h : A.guards = some []) : (A.deeper env).guards = some [] := h
/-- a def by its body -/
theorem FnG.by_body {x qual : Str} {pa : Arguments} {bd : List Stmt} {sc : Scope} {dvs : List V} {kws : List (Str × V)} {N : List Str} (D : FunD K x qual pa bd sc dvs kws f fd) (S : FnScope N ps sc)
    (ar : ∀ xs G Q E, sp xs G Q E → xs.length = ps.length)
    (body : ∀ (cdv : Value) (A : Around) (fr : List Env) (s : Shared) (G : Hp) (xs : List V) (Q : VK) (E : XK), A.guards = some [] → Room k (A.deeper (envOfC qual sc s.heap.objs.size f cdv)) → sp xs G Q E →
      ∃ t, PSs (cxOf CX P w K mg base N qual sc f cdv A fr s G E) bd t ∧ t { nx := fun _ G' => Q .non G', rt := Q } (start N xs) G) : FnG P w K mg base CX (k + 1) f fd ps sp := by
  obtain ⟨oc, od, dV, kV, doc, pm, an, cdv, ct, osl, rfl, lk, hcd, _, _⟩ := D.ex
  refine ⟨ar, fun A fr s G bound us xs Q E gu hr e0 hb hv h => ?_⟩
  have kin : K.In s.heap := e0.mod.kin.keeps fun b o z => (e0.bs b o z).1
  have nolim : s.heap.NoLimit := e0.mod.nolimit.keeps fun b o z => (e0.bs b o z).1
  have nice : ∀ q ∈ ps.zip us, sc.names.lookup q.1 = some .local ∨ (sc.names.lookup q.1 = some .cell ∧ ((cellsFrom (s.heap.objs.size + 1) sc.names []).lookup q.1).isSome = true) := by
    rintro ⟨y, u⟩ hy
    rcases S.par y (List.of_mem_zip hy).1 with z | z
    · exact Or.inl z
    · exact Or.inr ⟨z, PySem.W.cellsFrom_some _ _ _ (Or.inl z)⟩
  refine codeAny_call_function hr.depth (kin _ _ lk) rfl S.co S.gen rfl (PySem.W.codeRec_of kin hcd) (hb _ _ _ _ ?_)
  refine wpAny_newFunctionEnv_cells S.kind nice fun env eqn s1 entered => ?_
  subst eqn
  refine ⟨nolim.keeps entered.toInCall.keep, codeAny_func ?_⟩
  obtain ⟨t, reading, wished⟩ := body cdv A fr s G xs Q E gu (hr.deeper _) h
  have I0 := inv_start (CX := CX) (E := E) S hr.hd e0 (ar _ _ _ _ h) hv entered
  refine wpAny_mono (reading.run [] s1 (start N xs) G _ I0 wished) (fun fl s' q => ?_) fun _ _ q => q
  cases fl with
  | brk =>
    obtain ⟨_, _, _, no⟩ := q
    exact no.elim
  | cont =>
    obtain ⟨_, _, _, no⟩ := q
    exact no.elim
  | next =>
    obtain ⟨σ', G', J, q⟩ := q
    exact ⟨V.non, G', J.os, J.bare, J.base, J.hok, rfl, q⟩
  | ret u =>
    obtain ⟨v, σ', G', J, rv, q⟩ := q
    exact ⟨v, G', J.os, J.bare, J.base, J.hok, rv, q⟩
/-- the def x of the top, called where no repr is under way -/
structure DefG (P : Program) (w : World) (K : PySem.W.Frag) (mg : Str → Option Value) (base : Heap) (CX : CXT) (x : Str) (k : Nat) (ps : List Str) (sp : Sp) : Prop where
  ok : ∃ fd, FnG P w K mg base CX k (He.ga K x) fd ps sp ∧ Binds K fd ps []
  kp : PySem.W.keepIn K (.ref (He.ga K x)) = true
  gm : mg x = some (.ref (He.ga K x))
theorem Def.toG {x : Str} (D : Def P w K mg base CX x k ps sp) : DefG P w K mg base CX x k ps sp := by
  obtain ⟨⟨fd, F, b⟩, kp, gm⟩ := D
  exact ⟨⟨fd, .of F, b⟩, kp, gm⟩
theorem DefG.mk' {x : Str} {st : Stmt} {N : List Str} (F : FunD K x x (defArgs st) (defBody st) (defScope st) [] [] (He.ga K x) fd) (gm : mg x = some (.ref (He.ga K x))) (S : FnScope N ps (defScope st))
    (hb : ∀ (kV doc pm : Value) (an : Option Addr) (cdv ct : Value) (us : List Value), us.length = ps.length → bindArgs (PySem.W.fnOf x x (defArgs st) (defBody st) (defScope st) .none kV doc pm an cdv ct) ⟨us, []⟩ = pure (ps.zip us))
    (ar : ∀ xs G Q E, sp xs G Q E → xs.length = ps.length)
    (body : ∀ (cdv : Value) (A : Around) (fr : List Env) (s : Shared) (G : Hp) (xs : List V) (Q : VK) (E : XK), A.guards = some [] → Room k (A.deeper (envOfC x (defScope st) s.heap.objs.size (He.ga K x) cdv)) → sp xs G Q E →
      ∃ t, PSs (cxOf CX P w K mg base N x (defScope st) (He.ga K x) cdv A fr s G E) (defBody st) t ∧ t { nx := fun _ G' => Q .non G', rt := Q } (start N xs) G) : DefG P w K mg base CX x (k + 1) ps sp :=
  ⟨⟨fd, .by_body F S ar body, F.bindsN hb⟩, F.kp, gm⟩
end
section
variable {X : Cx} {CX : CXT} {k : Nat} {f : Addr} {fd : FuncData} {ps : List Str} {sp : Sp} {E : XK}
/-- the def runs, called from this body -/
theorem runG {pins : List (Addr × Obj)} {σ : L2.St} {H : Hp} {s : Shared} {Q : VK} {us : List Value} {xs : List V} (F : FnG X.prog X.w X.K X.mg X.base CX k f fd ps sp) (gu : X.A.guards = some []) (hr : Room k X.A) (hb : Binds X.K fd ps []) (hx : Passes CX X E)
    (I : Inv X pins σ H s) (r : Vals xs us) (h : sp xs H Q E) : wpAny (model X.prog X.w) X.A (PySem.call (.ref f) us) (EP X pins σ Q) X.xe s := by
  have lenU : us.length = ps.length := by
    rw [← r.length]
    exact F.ar _ _ _ _ h
  have bound := hb s us I.kIn (by rw [List.append_nil]; exact lenU)
  rw [List.append_nil] at bound
  refine wpAny_call (codeAny_mono (F.go X.A X.stack s H ⟨us, []⟩ us xs Q E gu hr I.env0 bound r h) fun res s' q => ?_)
  match res, q with
  | .ok (.ret u), q => exact I.after q
  | .error e, q => exact hx pins σ H s e s' I q
theorem pe_calG {x : Str} {e : Expr} {es : List Expr} {t : TA} {p pos : Pos} (D : DefG X.prog X.w X.K X.mg X.base CX0 x k ps sp) (gu : X.A.guards = some []) (hr : Room k X.A) (hg : Gl X x) (ha : PA X (e :: es) t)
    (he : starEach (e :: es) X.env = (false, eval e X.env) :: starEach es X.env := by rfl) (hpl : (backTo pos (starEach es X.env)).any (·.1) = false := by rfl) (hd : (x == ("__debug__" : Str)) = false := by decide) :
    PE X (.Call (.Name x p) (e :: es) [] pos) (tCall sp [] E0 t) := by
  obtain ⟨⟨fd, F, b⟩, kp, gm⟩ := D
  constructor
  intro pins s σ H Q I h
  refine wpAny_Call_Name_kw (ld_glob I hg gm ?_ hd)
  refine PySem.W.callWith_K (h₀ := X.base) I.ok.mod.kin kp ?_ he hpl
  refine thn (ha.run pos pins s σ H _ I h) fun us s1 q => ?_
  obtain ⟨xs, H1, I1, r, q⟩ := q
  rw [List.append_nil] at q
  exact ⟨I1.kIn, runG F gu hr b pass0 I1 r q⟩
theorem big_room {k : Nat} {A : Around} (hr : Room k A) : A.units + 101 < cLine := by
  have := hr.un
  omega
/-- repr of data, where no repr is under way -/
def rReprN (K : PySem.W.Frag) : List V → Hp → VK → Prop := fun xs H Q => ∃ (v : V) (d : PyData), xs = [v] ∧ Dp K H v d ∧ d.hasDict = false ∧ d.depth ≤ 100 ∧ d.showable = true ∧ d.shown.length ≤ sizeLine ∧ Q (.str d.shown) H
theorem call_reprN (gu : X.A.guards = some []) (room : X.A.units + 101 < cLine) : CallR X (.builtin "repr") (rReprN X.K) := by
  intro pins s σ H xs us Q I r h
  obtain ⟨v, d, rfl, dp, nd, dep, sh, sz, q⟩ := h
  obtain ⟨u, rfl, r1⟩ := vals1 r
  have flat : flatD d = true → wpAny (model X.prog X.w) X.A (PySem.call (.builtin "repr") [u]) (EP X pins σ Q) X.xe s := fun f => by
    have ev : v = valD d := by
      cases dp with
      | lst _ _ => cases f
      | tup _ _ => cases f
      | _ => rfl
    exact call_reprF pins s σ H [v] [u] Q I (.cons r1 .nil) ⟨v, d, rfl, f, ev, sh, sz, q⟩
  obtain ⟨as, rd⟩ := Dp.reads I d v u dp r1
  have obj : ∀ a, u = .ref a → wpAny (model X.prog X.w) X.A (PySem.call (.builtin "repr") [u]) (EP X pins σ Q) X.xe s := fun a e => by
    subst e
    refine repr_of_reads' rd sh (PyData.noDict_hsm nd) gu (by omega) (fun _ _ z => z) (fun h' t tk kept => ?_) sz
    exact ⟨.str d.shown, H, I.kept kept, ⟨t, rfl⟩, q⟩
  cases dp with
  | lst hs ha =>
    exact obj _ r1
  | tup hs ha =>
    exact obj _ r1
  | _ => exact flat rfl
end
/-! ### the law's look: both texts are the same -/
/-- data that repr shows in a bounded text -/
structure Shows (d : PyData) : Prop where
  nd : d.hasDict = false
  dep : d.depth ≤ 100
  sh : d.showable = true
  sz : d.shown.length ≤ sizeLine
/-- called with two values of the same data: True -/
def spSameD (K : PySem.W.Frag) : Sp := fun vs H Q _ => ∃ (x y : V) (d : PyData), vs = [x, y] ∧ Dp K H x d ∧ Dp K H y d ∧ Shows d ∧ Q (.bl true) H
theorem spSameD_len {K : PySem.W.Frag} {vs : List V} {H : Hp} {Q : VK} {E : XK} (h : spSameD K vs H Q E) : vs.length = 2 := by
  obtain ⟨_, _, _, rfl, _⟩ := h
  rfl
end Z
namespace Z
open PySem PySem.Spec PyProof.Rows L2
/-! ### the law is called: no repr is under way there -/
def scriptO (vs : List Value) : Obj := { cls := .type "list", data := .seq vs.toArray }
def tableO : Obj := { cls := .none, data := .fields #[] }
/-- what is tracked at the law's entry: the tables ts, the script at a unless K knows it -/
def H00 (K : PySem.W.Frag) (ts : List Addr) (a : Addr) (vs : List Value) (ns : List Int) : Hp := fun b =>
  if b ∈ ts then some (.tbl #[]) else if b = a ∧ K.lookup a = none then some (.frz (scriptO vs) (.lst (ns.map V.int))) else none
section
variable {K : PySem.W.Frag} {ts : List Addr} {a b : Addr} {vs : List Value} {ns : List Int}
theorem H00_tab (h : b ∈ ts) : H00 K ts a vs ns b = some (.tbl #[]) := if_pos h
theorem H00_cases : (b ∈ ts ∧ H00 K ts a vs ns b = some (.tbl #[])) ∨ (b ∉ ts ∧ b = a ∧ K.lookup a = none ∧ H00 K ts a vs ns b = some (.frz (scriptO vs) (.lst (ns.map V.int)))) ∨ (b ∉ ts ∧ H00 K ts a vs ns b = none) := by
  by_cases h : b ∈ ts
  · exact Or.inl ⟨h, if_pos h⟩
  · by_cases h2 : b = a ∧ K.lookup a = none
    · refine Or.inr (Or.inl ⟨h, h2.1, h2.2, ?_⟩)
      unfold H00
      rw [if_neg h, if_pos h2]
    · refine Or.inr (Or.inr ⟨h, ?_⟩)
      unfold H00
      rw [if_neg h, if_neg h2]
end
section
variable {P : Program} {w : World} {K : PySem.W.Frag} {mg mb : Str → Option Value} {CX : CXT} {k : Nat} {fa a : Addr} {cs : List (Addr × Addr)} {fd : FuncData} {x : Str} {sp : Sp} {s : Shared} {vs : List Value} {ns : List Int}
theorem law_enters (kin : K.In s.heap) (glob : s.heap.Ns mainGlobals mg) (bltn : s.heap.Ns builtinsNs mb) (bltnB : ∀ y : Str, y ≠ "__name__" → mb y = bootBuiltins y) (nolim : s.heap.NoLimit) (nogen : s.gens = #[])
    (tabs : ∀ q ∈ cs, s.heap.get? q.2 = some tableO) (notK : ∀ q ∈ cs, K.lookup q.2 = none) (codes : ∀ q ∈ cs, PySem.W.CodeHd s.heap q.1 q.2)
    (bm : ∃ (m : Addr) (ob : Obj), mg "__builtins__" = some (.ref m) ∧ m ≠ builtinsNs ∧ s.heap.get? m = some ob ∧ ob.cls = .type "module" ∧ ob.dict = some builtinsNs ∧ ob.data = .plain)
    (script : s.heap.get? a = some (scriptO vs)) (nums : IntsAre vs ns) (short : ns.length ≤ sizeLine) (room : Room k callerA)
    (F : ∀ base : Heap, K.In base → base.Ns mainGlobals mg → (∀ q ∈ cs, LamX.TabB base mg q.1 q.2) → FnG P w K mg base CX k fa fd [x] sp) (binds : ∀ (s : Shared) (u : Value), BindsTo s fd ⟨[u], []⟩ [(x, u)])
    (promise : ∀ G : Hp, (∀ q ∈ cs, G q.2 = some (.tbl #[])) → SqL K G a (ns.map V.int) → sp [.ref a] G (fun v _ => v = .bl true) fun _ _ _ => False)
    (noExc : ∀ G e s', CX [] G s (fun _ _ _ => False) e s' → False) :
    codeAny (model P w) callerA (.call (.ref fa) ⟨[.ref a], []⟩) (fun r s' => r = .ok (.ret (.bool true)) ∧ OldK s.heap s'.heap ∧ s'.os = s.os ∧ AllBare s'.gens) s := by
  have tabT : ∀ b, b ∈ cs.map (·.2) → s.heap.get? b = some tableO := fun b hb => by
    obtain ⟨q, hq, rfl⟩ := List.mem_map.mp hb
    exact tabs q hq
  have inT : ∀ q ∈ cs, q.2 ∈ cs.map (·.2) := fun q hq => List.mem_map.mpr ⟨q, hq, rfl⟩
  have len : vs.length = ns.length := nums.length
  have rel := vals_ints nums
  have sz : (ns.map V.int).length ≤ sizeLine := by
    rw [List.length_map]
    exact short
  have differ : scriptO vs ≠ tableO := fun z => by
    have z2 : (Data.seq vs.toArray) = Data.fields #[] := congrArg Obj.data z
    cases z2
  have aT : a ∉ cs.map (·.2) := fun z => by
    have z2 := tabT a z
    rw [script] at z2
    exact differ (Option.some.inj z2)
  -- what is tracked
  obtain ⟨G, hG⟩ : ∃ G, G = H00 K (cs.map (·.2)) a vs ns := ⟨_, rfl⟩
  have tabG' : ∀ q ∈ cs, G q.2 = some (.tbl #[]) := fun q hq => by
    rw [hG]
    exact H00_tab (inT q hq)
  have good : HOk P w G s.heap := fun b o e => by
    rw [hG] at e
    rcases H00_cases (K := K) (ts := cs.map (·.2)) (a := a) (b := b) (vs := vs) (ns := ns) with ⟨h, e2⟩ | ⟨h, rfl, _, e2⟩ | ⟨h, e2⟩
    · rw [e2] at e
      cases e
      exact tabT b h
    · rw [e2] at e
      cases e
      exact ⟨script, sz, vs, _, rel, script⟩
    · rw [e2] at e
      cases e
  have seen : SqL K G a (ns.map V.int) := by
    rcases H00_cases (K := K) (ts := cs.map (·.2)) (a := a) (b := a) (vs := vs) (ns := ns) with ⟨h, e2⟩ | ⟨h, _, _, e2⟩ | ⟨h, e2⟩
    · exact absurd h aT
    · refine Or.inl (Or.inr ⟨scriptO vs, ?_⟩)
      rw [hG]
      exact e2
    · cases q : K.lookup a with
      | none =>
        unfold H00 at e2
        rw [if_neg h, if_pos ⟨rfl, q⟩] at e2
        cases e2
      | some o =>
        have z := kin a o q
        rw [script] at z
        cases z
        refine Or.inr ⟨_, vs.toArray, _, q, rfl, rfl, rfl, ?_, by simpa using rel⟩
        rw [List.size_toArray, len]
        exact short
  -- an object of other data is not tracked
  have plainO : ∀ {b : Addr} {o : Obj}, s.heap.get? b = some o → o ≠ scriptO vs → o ≠ tableO → G b = none := fun {b o} e n1 n2 => by
    rw [hG]
    rcases H00_cases (K := K) (ts := cs.map (·.2)) (a := a) (b := b) (vs := vs) (ns := ns) with ⟨h, _⟩ | ⟨_, rfl, _, _⟩ | ⟨_, z⟩
    · rw [tabT b h] at e
      exact absurd (Option.some.inj e).symm n2
    · rw [script] at e
      exact absurd (Option.some.inj e).symm n1
    · exact z
  have ofData : ∀ {b : Addr} {o : Obj}, s.heap.get? b = some o → (∀ us n, o.data ≠ .seq us n) → o.data ≠ .fields #[] → (hidT s.heap G).get? b = some o := fun {b o} e n1 n2 =>
    hidT_get e (plainO e (fun z => n1 _ _ (congrArg Obj.data z)) fun z => n2 (congrArg Obj.data z))
  have nsB : ∀ {b : Addr} {m : Str → Option Value}, s.heap.Ns b m → (hidT s.heap G).Ns b m := fun {b m} n => by
    obtain ⟨o, es, ep, e, dt, rest⟩ := n
    refine ⟨o, es, ep, ofData e (fun us n z => ?_) (fun z => ?_), dt, rest⟩
    · rw [dt] at z
      cases z
    · rw [dt] at z
      cases z
  have kinB : K.In (hidT s.heap G) := fun b o e => by
    refine hidT_get (kin b o e) ?_
    rw [hG]
    rcases H00_cases (K := K) (ts := cs.map (·.2)) (a := a) (b := b) (vs := vs) (ns := ns) with ⟨h, _⟩ | ⟨_, rfl, q, _⟩ | ⟨_, z⟩
    · obtain ⟨q, hq, rfl⟩ := List.mem_map.mp h
      rw [notK q hq] at e
      cases e
    · rw [q] at e
      cases e
    · exact z
  have tabB : ∀ q ∈ cs, LamX.TabB (hidT s.heap G) mg q.1 q.2 := fun q hq => by
    have hq2 := tabs q hq
    constructor
    · obtain ⟨o, us, file, tf, flags, tg, inF, text, tt, e, c1, c2, c3, rest⟩ := codes q hq
      refine ⟨o, us, file, tf, flags, tg, inF, text, tt, ofData e (fun us n z => ?_) (fun z => ?_), c1, c2, c3, rest⟩
      · rw [c2] at z
        cases z
      · rw [c2] at z
        cases z
        simp at c3
    · obtain ⟨m, ob, b1, b2, b3, b4, b5, b6⟩ := bm
      have b3' : (hidT s.heap G).get? m = some ob := ofData b3 (fun us n z => by rw [b6] at z; cases z) fun z => by rw [b6] at z; cases z
      refine ⟨m, ob, b1, b2, fun z => ?_, fun z => ?_, b3', b4, b5, b6⟩
      · obtain ⟨o, es, ep, e, dt, _⟩ := glob
        rw [z, e] at b3
        cases b3
        rw [dt] at b6
        cases b6
      · rw [z, hq2] at b3
        cases b3
        cases b6
    · intro z
      obtain ⟨o, es, ep, e, dt, _⟩ := glob
      rw [z, hq2] at e
      cases e
      cases dt
  obtain ⟨mc, l1, l2⟩ := nolim
  have e0 : Env0 P w K mg (hidT s.heap G) callerA [] s G :=
    { frames := rfl
      mod := ⟨kinB, nsB glob, ⟨mb, nsB bltn, bltnB⟩, ⟨mc, nsB l1, l2⟩⟩
      bs := fun b o e => of_hidT e
      bsz := Nat.le_of_eq (hidT_size _ _)
      funs := trivial
      frf := fun b hb => by cases hb
      hok := good
      bare := .of_eq nogen }
  refine codeAny_mono ((F _ kinB (nsB glob) tabB).go callerA [] s G ⟨[.ref a], []⟩ [.ref a] [.ref a] _ _ rfl room e0 (binds s (.ref a)) (.cons rfl .nil) (promise G tabG' seen)) fun r s' q => ?_
  match r, q with
  | .error e, q => exact (noExc G e s' q).elim
  | .ok (.ret u), q =>
    obtain ⟨v, G', os, bare, un, good', ru, rfl⟩ := q
    obtain rfl : u = Value.bool true := ru
    have stays : ∀ b o, b ∉ cs.map (·.2) → s.heap.get? b = some o → s'.heap.get? b = some o := fun b o nb e => by
      rcases H00_cases (K := K) (ts := cs.map (·.2)) (a := a) (b := b) (vs := vs) (ns := ns) with ⟨h, _⟩ | ⟨_, _, _, z⟩ | ⟨_, z⟩
      · exact absurd h nb
      · rw [← hG] at z
        have e2 := (good b _ z).1
        rw [e] at e2
        cases e2
        exact (good' b _ (un.frzs b _ _ z)).1
      · rw [← hG] at z
        exact un.keep b o e z (fun y => by cases y) (by simp)
    have grows : ∀ q ∈ cs, ∃ more : Array Value, s'.heap.get? q.2 = some { cls := .none, data := .fields more } := fun q hq => by
      obtain ⟨more, z⟩ := un.tbls q.2 #[] (tabG' q hq)
      exact ⟨_, good' q.2 _ z⟩
    refine ⟨rfl, ⟨fun b o e => ?_, fun b o e => ?_⟩, os, bare⟩
    · by_cases hb : b ∈ cs.map (·.2)
      · obtain ⟨q, hq, rfl⟩ := List.mem_map.mp hb
        obtain ⟨more, z⟩ := grows q hq
        rw [tabs q hq] at e
        cases e
        refine Or.inr (Or.inl ⟨((codes q hq).tab (tabs q hq)).isCodeTable, rfl, #[], more, rfl, ?_⟩)
        rw [Array.empty_append]
        exact z
      · exact Or.inl (stays b o hb e)
    · by_cases hb : b ∈ cs.map (·.2)
      · obtain ⟨q, hq, rfl⟩ := List.mem_map.mp hb
        obtain ⟨more, z⟩ := grows q hq
        exact ⟨_, z⟩
      · exact ⟨o, stays b o hb e⟩
end
/-- what is known of the law at the head's heap -/
def LawG (l : PySem.W.OpenLaw) (w : World) (K : PySem.W.Frag) (CX : CXT) (k n : Nat) (x : Str) (mg : Str → Option Value) (fa : Addr) (h : Heap) : Prop :=
  ∃ (fd : FuncData) (cs : List (Addr × Addr)) (sp : Sp), (∀ q ∈ cs, h.get? q.2 = some tableO) ∧ (∀ q ∈ cs, K.lookup q.2 = none) ∧ (∀ q ∈ cs, PySem.W.CodeHd h q.1 q.2) ∧ (∀ (s : Shared) (u : Value), BindsTo s fd ⟨[u], []⟩ [(x, u)]) ∧
    (∀ (G : Hp) (a : Addr) (ns : List Int), ns.length ≤ n → (∀ z ∈ ns, Builtin.Int.intBits z ≤ 1048576) → (∀ q ∈ cs, G q.2 = some (.tbl #[])) → SqL K G a (ns.map V.int) → sp [.ref a] G (fun v _ => v = .bl true) fun _ _ _ => False) ∧
    ∀ base : Heap, K.In base → base.Ns mainGlobals mg → (∀ q ∈ cs, LamX.TabB base mg q.1 q.2) → FnG l.prog w K mg base CX k fa fd [x] sp
theorem walk_G {l : PySem.W.OpenLaw} {n k : Nat} {q : Program} {loose : List Str} {XP : (Str → Option Value) → Heap → Prop} {YP : World → Heap → Prop} {d : DefRec} {CX : World → CXT} {x : Str} (most : l.most = some n) (small : n ≤ sizeLine) (nodef : d.params.defaults = []) (room : Room k callerA)
    (F : ∀ (w : World) (mg : Str → Option Value) (fa : Addr) (h : Heap), YP w h → h.Ns mainGlobals mg → mg d.name = some (.ref fa) → ∃ K : PySem.W.Frag, K.In h ∧ LawG l w K (CX w) k n x mg fa h)
    (noExc : ∀ (w : World) (G : Hp) (s : Shared) (e : Value) (s' : Shared), CX w [] G s (fun _ _ _ => False) e s' → False) : PySem.W.WalkO q loose XP YP l.row.toRowW d [] (fun f us => PySem.call f us) := by
  refine Att.attach_callB most nodef ?_
  intro w _ s mg mb fa o _ _ _ a vs ns G Y _ _ _ gm script nums short bits nogen
  obtain ⟨K, kin, fd, cs, sp, tabs, notK, codes, binds, promise, def_⟩ := F w mg fa _ Y G.T.g gm
  exact law_enters kin G.T.g G.T.b G.T.builtins G.T.nolimit nogen tabs notK codes G.T.bmain script nums (Nat.le_trans short small) room def_ binds (fun G' hT hS => promise G' a ns short bits hT hS) fun G' e s' => noExc w G' s e s'
end Z
/-! # errors of own classes over ValueError: fields set by __init__, raised, caught, asked, read -/
namespace Z
open PySem PySem.Spec PyProof.Rows L2
/-! ### what the top says of such a class -/
/-- the statements of a class -/
def inCls : Stmt → List Stmt
  | .ClassDef (body := b) .. => b
  | _ => []
def shapeB (K : PySem.W.Frag) (D : Addr) : Bool := match K.lookup D with
  | some ⟨.type "type", _, .cls r, sl⟩ => (match r.mro, sl.toList with
    | .ref D' :: up, [_, _, _, _, some (.builtin id), _] => D' == D && (id == "ValueError.__new__" && (!r.hasDel && (r.hasDict && refsVE' up)))
    | _, _ => false)
  | _ => false
where refsVE' (l : List Value) : Bool := PySem.HandSPX.refsVE l
theorem shapeB_ok {K : PySem.W.Frag} {D : Addr} (h : shapeB K D = true) : ∃ nm q N bs bm sn sub ab col dd k0 k1 k2 k3 k5, K.lookup D = some (excClassObj nm q D N bs bm true sn sub ab col dd k0 k1 k2 k3 k5 "ValueError.__new__") ∧ PySem.HandSPX.refsVE bm = true := by
  unfold shapeB at h
  split at h
  · rename_i dd r sl found
    split at h
    · rename_i D' up k0 k1 k2 k3 id k5 hm hs
      obtain ⟨e1, h⟩ := Bool.and_eq_true_iff.mp h
      obtain ⟨e2, h⟩ := Bool.and_eq_true_iff.mp h
      obtain ⟨e3, h⟩ := Bool.and_eq_true_iff.mp h
      obtain ⟨h4, h5⟩ := Bool.and_eq_true_iff.mp h
      have h1 := beq_iff_eq.mp e1
      have h2 := beq_iff_eq.mp e2
      have h3 : r.hasDel = false := by
        cases q : r.hasDel with
        | false => rfl
        | true =>
          rw [q] at e3
          cases e3
      clear e1 e2 e3
      obtain ⟨nm, bs, mro, ns, qn, hd, sn, sub, ab, col, del⟩ := r
      dsimp only at hm h3 h4
      subst hm h3 h4 h1 h2
      have es : sl = #[k0, k1, k2, k3, some (.builtin "ValueError.__new__"), k5] := by
        obtain ⟨l⟩ := sl
        simp only at hs
        rw [hs]
      subst es
      exact ⟨nm, qn, ns, bs, up, sn, sub, ab, col, dd, k0, k1, k2, k3, k5, found, h5⟩
    · cases h
  · cases h
def sameO (a b : Option (Option Value)) : Bool := decide (a = b)
/-- what K must say of the class at D, so that its errors are made, asked and read; fs: its fields -/
def clsB (K : PySem.W.Frag) (D : Addr) (fs : List Str) : Bool :=
  [shapeB K D, sameO (PySem.W.findIn K (.ref D) "__setattr__") (some (some (.builtin "object.__setattr__"))), decide (PySem.W.subIn K (.ref D) (.type "BaseException") = some true), decide (PySem.W.typeIn K (.ref D) = some (.type "type")), PySem.W.keepIn K (.ref D),
    sameO (PySem.W.findIn K (.ref D) "__getattribute__") (some (some (.builtin "BaseException.__getattribute__"))), sameO (PySem.W.findIn K (.ref D) "__getattr__") (some none), PySem.W.hasDictIn K D,
    sameO (PySem.W.findIn K (.ref D) "__class__") (some (some (.builtin "object.__class__"))), sameO (PySem.W.specialIn K (.builtin "object.__class__") "__get__") (some (some (.builtin "getset_descriptor.__get__"))),
    decide (PySem.W.takesIn K (.builtin "object.__class__") = some true), decide (PySem.W.mroIn K D (.type "object") = some true), fs.all fun f => sameO (PySem.W.findIn K (.ref D) f) (some none)].all id
structure Cls1 (K : PySem.W.Frag) (D : Addr) (fs : List Str) : Prop where
  oex : OexC K D
  xf : XfC K D
  ec : ExcC K D
  no : ∀ f ∈ fs, PySem.W.findIn K (.ref D) f = some none
theorem clsB_ok {K : PySem.W.Frag} {D : Addr} {fs : List Str} (h : clsB K D fs = true) : Cls1 K D fs := by
  unfold clsB at h
  simp only [List.all_cons, List.all_nil, id, Bool.and_true, Bool.and_eq_true] at h
  obtain ⟨h1, h2, h3, h4, h5, h6, h7, h8, h9, hA, hB, hC, hD⟩ := h
  exact ⟨⟨shapeB_ok h1, of_decide_eq_true h2, of_decide_eq_true h3, of_decide_eq_true h4, h5⟩, ⟨of_decide_eq_true h6, of_decide_eq_true h7, of_decide_eq_true h3, h8⟩,
    ⟨of_decide_eq_true h6, of_decide_eq_true h7, of_decide_eq_true h3, h8, of_decide_eq_true h9, of_decide_eq_true hA, of_decide_eq_true hB, of_decide_eq_true hC⟩, fun f hf => of_decide_eq_true (List.all_eq_true.mp hD f hf)⟩
/-- its __init__ is a def -/
def initB (K : PySem.W.Frag) (D : Addr) : Bool := sameO (PySem.W.findIn K (.ref D) "__init__") (some (some (.ref (He.ma K D "__init__")))) && decide (PySem.W.typeIn K (.ref (He.ma K D "__init__")) = some (.type "function"))
/-- errors of cls are (or are not) those that «except C» takes, and of which isinstance(e, C) tells True -/
def takesB (K : PySem.W.Frag) (cls C : Addr) (b : Bool) : Bool := decide (PySem.W.exmOne K (.ref cls) (.ref C) = some b) && decide (PySem.W.kitOne K (.ref cls) (.ref C) = some b)

/-! ### __init__ of one or two fields -/
/-- self (at a, new, of the class D) gets the fields fs, the last written ahead -/
def spI (K : PySem.W.Frag) (fs : List Str) : Sp := fun vs H Q _ => ∃ (a D : Addr) (xs : List V), vs = .ref a :: xs ∧ xs.length = fs.length ∧ OexC K D ∧ (∀ f ∈ fs, PySem.W.findIn K (.ref D) f = some none) ∧ H a = some (exo a D none) ∧
  ∀ d H', H d = none → d ≠ a → (∀ b, H b ≠ none → b ≠ a → H' b = H b) → H' a = some (exo a D (some d)) → H' d = some (exd d (fs.zip xs).reverse) → (∀ b, H b = none → b ≠ d → H' b = none) → Q .non H'
section
variable {P : Program} {w : World} {K : PySem.W.Frag} {mg : Str → Option Value} {base : Heap} {CX : CXT} {qual f g : Str} {pa : Arguments} {bd : List Stmt} {sc : Scope} {kws : List (Str × V)} {fI : Addr} {fd : FuncData} {p1 p2 p3 p4 q1 q2 q3 q4 : Pos}
theorem init_one (D : FunD K "__init__" qual pa [.Assign [.Attribute (.Name "self" p1) f p2] (.Name f p3) p4] sc [] kws fI fd) (S : FnScope ["self", f] ["self", f] sc) (l0 : sc.names.lookup ("self" : Str) = some .local) (l1 : sc.names.lookup f = some .local) (df : (f == ("__debug__" : Str)) = false) (cf : (f == ("__classdict__" : Str)) = false) :
    FnOk P w K mg base CX 1 fI fd ["self", f] (spI K [f]) := by
  refine D.ok (k := 0) S (fun vs H Q E h => ?_) fun cdv A outer s H vs Q E hr h => ⟨_, pss_one (ps_ost (pe_var (i := 0) rfl (Or.inl l0)) (pe_var (i := 1) rfl (Or.inl l1) df cf)), ?_⟩
  · obtain ⟨a, C, xs, rfl, n, _⟩ := h
    exact congrArg (· + 1) n
  · obtain ⟨a, C, xs, rfl, n, oex, no, at_a, k⟩ := h
    match xs, n with
    | [x], _ =>
      show tVar 1 [some (.ref a), some x] H _
      refine ⟨x, rfl, .ref a, rfl, a, C, rfl, oex, no f (by simp), Or.inl ⟨at_a, fun d hd ne => ?_⟩⟩
      refine k d _ hd ne (fun b hb na => ?_) upd_same ?_ fun b hb nd => ?_
      · rw [upd_ne na, upd_ne fun z => hb (by rw [z]; exact hd)]
      · rw [upd_ne ne, upd_same] <;> rfl
      · have na : b ≠ a := fun z => by
          rw [z, at_a] at hb
          cases hb
        rw [upd_ne na, upd_ne nd]
        exact hb
theorem init_two (D : FunD K "__init__" qual pa [.Assign [.Attribute (.Name "self" p1) f p2] (.Name f p3) p4, .Assign [.Attribute (.Name "self" q1) g q2] (.Name g q3) q4] sc [] kws fI fd) (S : FnScope ["self", f, g] ["self", f, g] sc)
    (l0 : sc.names.lookup ("self" : Str) = some .local) (l1 : sc.names.lookup f = some .local) (l2 : sc.names.lookup g = some .local)
    (df : (f == ("__debug__" : Str)) = false) (cf : (f == ("__classdict__" : Str)) = false) (dg : (g == ("__debug__" : Str)) = false) (cg : (g == ("__classdict__" : Str)) = false) : FnOk P w K mg base CX 1 fI fd ["self", f, g] (spI K [f, g]) := by
  refine D.ok (k := 0) S (fun vs H Q E h => ?_) fun cdv A outer s H vs Q E hr h => ⟨_, pss_cons (ps_ost (pe_var (i := 0) rfl (Or.inl l0)) (pe_var (i := 1) rfl (Or.inl l1) df cf)) (pss_one (ps_ost (pe_var (i := 0) rfl (Or.inl l0)) (pe_var (i := 2) rfl (Or.inl l2) dg cg))), ?_⟩
  · obtain ⟨a, C, xs, rfl, n, _⟩ := h
    exact congrArg (· + 1) n
  · obtain ⟨a, C, xs, rfl, n, oex, no, at_a, k⟩ := h
    match xs, n with
    | [x, y], _ =>
      refine ⟨x, rfl, .ref a, rfl, a, C, rfl, oex, no f (by simp), Or.inl ⟨at_a, fun d hd ne => ?_⟩⟩
      refine ⟨y, rfl, .ref a, rfl, a, C, rfl, oex, no g (by simp), Or.inr ⟨d, [(f, x)], upd_same, by rw [upd_ne ne, upd_same], (show 1 ≤ 900 by decide), ?_⟩⟩
      refine k d _ hd ne (fun b hb na => ?_) ?_ upd_same fun b hb nd => ?_
      · have nd : b ≠ d := fun z => hb (by rw [z]; exact hd)
        rw [upd_ne nd, upd_ne na, upd_ne nd]
      · rw [upd_ne (Ne.symm ne), upd_same]
      · have na : b ≠ a := fun z => by
          rw [z, at_a] at hb
          cases hb
        rw [upd_ne nd, upd_ne na, upd_ne nd]
        exact hb
end

/-! ### raised -/
/-- an argument list's reading may wish for less -/
theorem pa_up {X : Cx} {es : List Expr} {ta : TA} (ha : PA X es ta) : PA X es fun σ H Q' => ∃ Q, ta σ H Q ∧ ∀ vs H1, Q vs H1 → Q' vs H1 := by
  constructor
  intro pos pins s σ H Q' I h
  obtain ⟨Q, h, less⟩ := h
  refine thn (ha.run pos pins s σ H Q I h) fun us s1 q => ?_
  obtain ⟨vs, H1, I1, r, q⟩ := q
  exact ⟨vs, H1, I1, r, less vs H1 q⟩
/-- the class x of the top with an __init__ of fields fs, that may be called -/
structure Err (P : Program) (w : World) (K : PySem.W.Frag) (mg : Str → Option Value) (base : Heap) (x : Str) (fs : List Str) : Prop where
  gm : mg x = some (.ref (He.ga K x))
  cls : Cls1 K (He.ga K x) fs
  iC : PySem.W.findIn K (.ref (He.ga K x)) "__init__" = some (some (.ref (He.ma K (He.ga K x) "__init__")))
  tI : PySem.W.typeIn K (.ref (He.ma K (He.ga K x) "__init__")) = some (.type "function")
  ok : ∃ (fd : FuncData) (ps : List Str), FnOk P w K mg base CX0 1 (He.ma K (He.ga K x) "__init__") fd ps (spI K fs) ∧ Binds K fd ps []
/-- raise x(e, ..): the error's own dict, new, holds the fields -/
def tRz (K : PySem.W.Frag) (x : Str) (fs : List Str) (W : WX) (ta : TA) : TS := fun _ σ H => ta σ H fun vs H1 => vs.length = fs.length ∧ vs.length ≤ 1000 ∧
  ∀ d H', H1 d = none → (∀ b, H1 b ≠ none → H' b = H1 b) → H' d = some (.xd (fs.zip vs).reverse) → W (.ref (He.ga K x)) (some d) σ H'
section
variable {X : Cx} {x : Str} {fs : List Str} {k : Nat} {e : Expr} {es : List Expr} {ta : TA} {W : WX} {p pos pos2 : Pos}
theorem ps_rz (T : Err X.prog X.w X.K X.mg X.base x fs) (calm : X.calm = true) (tk : Takes X W) (hr : Room 2 X.A) (hg : Gl X x) (ha : PA X (e :: es) ta) (hd : (x == ("__debug__" : Str)) = false := by decide)
    (he : starEach (e :: es) X.env = (false, eval e X.env) :: starEach es X.env := by rfl) (hpl : (backTo pos (starEach es X.env)).any (·.1) = false := by rfl) :
    PS X (.Raise (some (.Call (.Name x p) (e :: es) [] pos)) none pos2) (tRz X.K x fs W ta) := by
  obtain ⟨fd, ps, F, b⟩ := T.ok
  have r := ps_raise (pos := pos2) calm tk (pmk_oex (p := p) (CX := CX0) (k := 1) T.cls.oex T.iC T.tI F hr b .nil pass0 hg T.gm (pa_up ha) (hdb := hd) (he := he) (hpl := hpl))
  refine ⟨fun pins s σ H D I h => r.run pins s σ H D I ?_⟩
  have mono : ∀ (vs : List V) (H1 : Hp), (vs.length = fs.length ∧ vs.length ≤ 1000 ∧ ∀ d H', H1 d = none → (∀ b, H1 b ≠ none → H' b = H1 b) → H' d = some (.xd (fs.zip vs).reverse) → W (.ref (He.ga X.K x)) (some d) σ H') →
      vs.length ≤ 1000 ∧ ∀ a, H1 a = none → spI X.K fs (.ref a :: (vs ++ [])) (upd H1 a (exo a (He.ga X.K x) none)) (fun v H2 => v = .non ∧ ∃ (d : Addr) (gs : List (Str × V)), H2 a = some (exo a (He.ga X.K x) (some d)) ∧ H2 d = some (exd d gs) ∧ H1 d = none ∧ W (.ref (He.ga X.K x)) (some d) σ (upd (del H2 a) d (.xd gs))) (fun _ _ _ => False) := by
    rintro vs H1 ⟨n, small, q⟩
    refine ⟨small, fun a ha => ?_⟩
    rw [List.append_nil]
    refine ⟨a, _, vs, rfl, n, T.cls.oex, T.cls.no, upd_same, fun d H2 hd ne same at_a at_d new => ?_⟩
    have hd1 : H1 d = none := by
      rw [upd_ne ne] at hd
      exact hd
    refine ⟨rfl, d, _, at_a, at_d, hd1, q d _ hd1 (fun b hb => ?_) upd_same⟩
    have na : b ≠ a := fun z => hb (by rw [z]; exact ha)
    have nd : b ≠ d := fun z => hb (by rw [z]; exact hd1)
    rw [upd_ne nd, del_ne na, same b (by rw [upd_ne na]; exact hb) na, upd_ne na]
  exact ⟨_, h, mono⟩
end
/-! ### all that is asked of such a class, from the top -/
theorem all_at {l : List Bool} (h : l.all id = true) (i : Nat) {b : Bool} (e : l[i]? = some b) : b = true := List.all_eq_true.mp h b (List.mem_of_getElem? e)
theorem takes_at {K : PySem.W.Frag} {a b : Addr} {r : Bool} (h : takesB K a b r = true) : PySem.W.exmOne K (.ref a) (.ref b) = some r ∧ PySem.W.kitOne K (.ref a) (.ref b) = some r := by
  obtain ⟨h1, h2⟩ := Bool.and_eq_true_iff.mp h
  exact ⟨of_decide_eq_true h1, of_decide_eq_true h2⟩
theorem Err.mk' {P : Program} {w : World} {K : PySem.W.Frag} {mg : Str → Option Value} {base : Heap} {x : Str} {fs ps : List Str} {fd : FuncData} (gm : mg x = some (.ref (He.ga K x))) (c : Cls1 K (He.ga K x) fs) (n : initB K (He.ga K x) = true)
    (F : FnOk P w K mg base CX0 1 (He.ma K (He.ga K x) "__init__") fd ps (spI K fs)) (b : Binds K fd ps []) : Err P w K mg base x fs := by
  obtain ⟨n1, n2⟩ := Bool.and_eq_true_iff.mp n
  exact ⟨gm, c, of_decide_eq_true n1, of_decide_eq_true n2, fd, ps, F, b⟩
end Z
/-! # errors caught; promises of defs that may raise -/
namespace Z
open PySem PySem.Spec PyProof.Rows L2
/-! ### in the except suite -/
/-- isinstance(e, c), e the error that the suite holds (at a, of the class cls, its dict d) -/
def rIsX (K : PySem.W.Frag) (a : Addr) (cls : Value) (d : Option Addr) : List V → Hp → VK → Prop := fun xs H Q => ∃ (c : V) (cv : Value) (D : Addr) (b : Bool), xs = [.ref a, c] ∧ (∀ u, RelV c u → u = cv) ∧ cls = .ref D ∧ ExcC K D ∧
  (d = none ∨ ∃ (dd : Addr) (fs : List (Str × V)), d = some dd ∧ H dd = some (.xd fs)) ∧ PySem.W.kitOne K (.ref D) cv = some b ∧ Q (.bl b) H
theorem call_isX {X : Cx} {a : Addr} {cls : Value} {d : Option Addr} {oe : Obj} {pn : List (Addr × Obj)} (hz : Zc cls d oe) (hf : ∃ vs, oe.data = .fields vs) : CallR (X.suite a ((a, oe) :: pn)) (.builtin "isinstance") (rIsX X.K a cls d) := by
  intro pins s σ H xs us Q I r h
  obtain ⟨c, cv, D, b, rfl, only, rfl, EC, di, kit, q⟩ := h
  obtain ⟨at_a, _⟩ := I.pin (a, oe) (List.mem_append_left _ List.mem_cons_self)
  obtain ⟨vs, dat⟩ := hf
  have notC : PySem.W.notCls oe := by
    unfold PySem.W.notCls
    rw [dat] <;> rfl
  have inst : ∃ od : Option Obj, PySem.W.InstAt s.heap a oe D od := by
    rcases di with rfl | ⟨dd, fs, rfl, at_d⟩
    · refine ⟨none, at_a, hz.1, notC, ?_⟩
      rw [hz.2]
      exact trivial
    · have ok : ObjOk X.prog X.w H s.heap dd (.xd fs) := I.hok dd _ at_d
      obtain ⟨m, hns, _⟩ := ok
      obtain ⟨od, ho, _⟩ := lookIn_ns hns
      refine ⟨some od, at_a, hz.1, notC, ?_⟩
      rw [hz.2]
      exact ho
  obtain ⟨od, J⟩ := inst
  match us, r with
  | [_, u], .cons rx (.cons rc .nil) =>
    obtain rfl := only _ rc
    cases rx
    have cl : (PySem.W.clsIn X.K D).isSome = true := by
      obtain ⟨cd, hc, _⟩ := PySem.W.any_some EC.hd
      rw [hc] <;> rfl
    exact PySem.W.kia_one (PySem.W.kitx_exc cl EC.hg EC.hk EC.hs EC.ha EC.hn EC.ht EC.hm) I.kIn J kit (fun z => nomatch z) fun tk => ⟨.bl b, H, I.kept (t' := tk) fun _ _ z => z, rfl, q⟩

/-! ### what a def that may raise promises -/
inductive Out
  | ret (d : PyData)
  | exc (x : Str) (fs : Option (List (Str × PyData)))
/-- the fields as the error's dict holds them: the last written ahead -/
def fldV (fs : List (Str × PyData)) : List (Str × V) := (fs.map fun p => (p.1, valD p.2)).reverse
def Goes (K : PySem.W.Frag) (C : Addr → Prop) (I : Hp → Prop) (H : Hp) (Q : VK) (E : XK) : Out → Prop
  | .ret d => ∀ v H', Xt C I H H' → Rp K C H' v d → Q v H'
  | .exc x none => ∀ H', Xt C I H H' → E (.ref (He.ga K x)) none H'
  | .exc x (some fs) => ∀ d H', Xt C I H H' → ¬ C d → H' d = some (.xd (fldV fs)) → E (.ref (He.ga K x)) (some d) H'
def spX (K : PySem.W.Frag) (cs : List Addr) (n : Nat) (f : List PyData → Option Out) : Sp := fun vs H Q E => ∃ (C : Addr → Prop) (I : Hp → Prop) (ds : List PyData) (o : Out),
  vs.length = n ∧ Wd cs C I ∧ I H ∧ RpAll K C H vs ds ∧ f ds = some o ∧ Goes K C I H Q E o
section
variable {K : PySem.W.Frag} {cs : List Addr} {C : Addr → Prop} {I : Hp → Prop} {H H1 H2 : Hp} {vs : List V} {ds : List PyData} {n : Nat} {f : List PyData → Option Out} {Q : VK} {E : XK}
theorem spX_len (h : spX K cs n f vs H Q E) : vs.length = n := by
  obtain ⟨_, _, _, _, e, _⟩ := h
  exact e
theorem Xt.same (W : Wd cs C I) (x : Xt C I H H1) (same : ∀ b, H1 b ≠ none → H2 b = H1 b) : Xt C I H H2 := by
  refine ⟨fun a o nc e => ?_, W.stay H1 H2 x.2 fun a c => same a ?_⟩
  · have e1 := x.1 a o nc e
    rw [same a (by rw [e1]; simp)]
    exact e1
  · obtain ⟨o, e⟩ := W.ne H1 a x.2 c
    rw [e]
    simp
/-- what is wished at H, is wished behind -/
theorem Goes.on {o : Out} (go : Goes K C I H Q E o) (x : Xt C I H H1) : Goes K C I H1 Q E o := by
  match o, go with
  | .ret _, go => exact fun v H' y => go v H' (x.trans y)
  | .exc _ none, go => exact fun H' y => go H' (x.trans y)
  | .exc _ (some _), go => exact fun d H' y => go d H' (x.trans y)
/-- the end of raise x(e, ..) -/
theorem rz_end {x : Str} {fs : List Str} {gs : List (Str × PyData)} (W : Wd cs C I) (X : Xt C I H H1) (go : Goes K C I H Q E (.exc x (some gs))) (hn : vs.length = fs.length) (hz : Nat.ble vs.length 1000 = true) (hf : (fs.zip vs).reverse = fldV gs) :
    vs.length = fs.length ∧ vs.length ≤ 1000 ∧ ∀ d H', H1 d = none → (∀ b, H1 b ≠ none → H' b = H1 b) → H' d = some (.xd (fs.zip vs).reverse) → E (.ref (He.ga K x)) (some d) H' := by
  refine ⟨hn, Nat.le_of_ble_eq_true hz, fun d H' hd same at_d => ?_⟩
  rw [hf] at at_d
  exact go d H' (X.same W same) (W.new X.2 hd) at_d
end
/-- f(e, ..), f may raise: what is wished of its errors is W -/
theorem pe_calX {X : Cx} {W : WX} {x : Str} {k : Nat} {ps : List Str} {sp : Sp} {e : Expr} {es : List Expr} {t : TA} {p pos : Pos} (D : Def X.prog X.w X.K X.mg X.base (L2.CX X.prog X.w) x k ps sp) (tk : Takes X W) (hr : Room k X.A) (hg : Gl X x) (ha : PA X (e :: es) t)
    (he : starEach (e :: es) X.env = (false, eval e X.env) :: starEach es X.env := by rfl) (hpl : (backTo pos (starEach es X.env)).any (·.1) = false := by rfl) (hd : (x == ("__debug__" : Str)) = false := by decide) :
    PE X (.Call (.Name x p) (e :: es) [] pos) (tCallS sp (WE W) t) := by
  obtain ⟨⟨fd, F, b⟩, kp, gm⟩ := D
  exact pe_callS F hr hg gm kp b (fun σ => passAt tk σ) ha (hdb := hd) (he := he) (hpl := hpl)
/-- a def that may raise, by its body -/
theorem Def.mkX {P : Program} {w : World} {K : PySem.W.Frag} {mg : Str → Option Value} {base : Heap} {x : Str} {st : Stmt} {fd : FuncData} {N ps : List Str} {k : Nat} {sp : Sp} (F : FunD K x x (defArgs st) (defBody st) (defScope st) [] [] (He.ga K x) fd) (gm : mg x = some (.ref (He.ga K x)))
    (S : FnScope N ps (defScope st))
    (hb : ∀ (kV doc pm : Value) (an : Option Addr) (cdv ct : Value) (us : List Value), us.length = ps.length → bindArgs (PySem.W.fnOf x x (defArgs st) (defBody st) (defScope st) .none kV doc pm an cdv ct) ⟨us, []⟩ = pure (ps.zip us))
    (len : ∀ xs G Q E, sp xs G Q E → xs.length = ps.length)
    (body : ∀ (cdv : Value) (A : Around) (outer : List Env) (s : Shared) (H : Hp) (xs : List V) (Q : VK) (E : XK), Takes (cxOf (L2.CX P w) P w K mg base N x (defScope st) (He.ga K x) cdv A outer s H E) (fun cls d _ H => E cls d H) →
      PassesOwn (model P w) (cxOf (L2.CX P w) P w K mg base N x (defScope st) (He.ga K x) cdv A outer s H E).A (cxOf (L2.CX P w) P w K mg base N x (defScope st) (He.ga K x) cdv A outer s H E).env (cxOf (L2.CX P w) P w K mg base N x (defScope st) (He.ga K x) cdv A outer s H E).xe →
      Room k (A.deeper (envOfC x (defScope st) s.heap.objs.size (He.ga K x) cdv)) → sp xs H Q E →
      ∃ t, PSs (cxOf (L2.CX P w) P w K mg base N x (defScope st) (He.ga K x) cdv A outer s H E) (defBody st) t ∧ t { nx := fun _ H' => Q .non H', rt := Q } (start N xs) H) : Def P w K mg base (L2.CX P w) x (k + 1) ps sp :=
  Def.mk' F gm S hb len fun cdv A outer s H xs Q E hr h => body cdv A outer s H xs Q E (takes_of rfl rfl rfl rfl) (passes_of rfl) hr h
section
variable {σ : L2.St} {H : Hp} {Q : VK} {t : TA} {te : TE} {D : Ends} {K : PySem.W.Frag} {a C : Addr} {cls c : Value} {d : Option Addr} {f x : Str} {E : L2.St → XK} {sp : Sp} {W : WX} {ts : Addr → Value → Option Addr → TS} {i : Nat} {fs : List Str}
theorem r_calX (k : t σ H fun vs H1 => sp vs H1 Q (E σ)) : tCallS sp E t σ H Q := k
theorem r_rz (k : t σ H fun vs H1 => vs.length = fs.length ∧ vs.length ≤ 1000 ∧ ∀ d H', H1 d = none → (∀ b, H1 b ≠ none → H' b = H1 b) → H' d = some (.xd (fs.zip vs).reverse) → W (.ref (He.ga K x)) (some d) σ H') : tRz K x fs W t D σ H := k
/-- e.f, e the error of the suite -/
theorem r_xf {dd : Addr} {gs : List (Str × V)} {v : V} (hc : cls = .ref C) (hd : d = some dd) (at_d : H dd = some (.xd gs)) (hl : gs.lookup f = some v) (k : ∀ q : VK, q (.ref a) H → te σ H q) (go : Q v H) : tXf a cls d C f te σ H Q := by
  subst hc hd
  exact k _ ⟨rfl, rfl, dd, gs, v, rfl, at_d, hl, go⟩
/-- isinstance(e, C) of an error of the class D' -/
theorem r_isX {D' : Addr} {b : Bool} (t : takesB K D' C b = true) (ec : ExcC K D') (di : d = none ∨ ∃ (dd : Addr) (fs : List (Str × V)), d = some dd ∧ H dd = some (.xd fs)) (k : Q (.bl b) H) : rIsX K a (.ref D') d [.ref a, .ref C] H Q :=
  ⟨.ref C, .ref C, D', b, rfl, fun _ h => h, rfl, ec, di, (takes_at t).2, k⟩
theorem r_isV {D' : Addr} (t : PySem.W.kitOne K (.ref D') (.type "ValueError") = some true) (ec : ExcC K D') (di : d = none ∨ ∃ (dd : Addr) (fs : List (Str × V)), d = some dd ∧ H dd = some (.xd fs)) (k : Q (.bl true) H) : rIsX K a (.ref D') d [.ref a, .ty "ValueError"] H Q :=
  ⟨.ty "ValueError", .type "ValueError", D', true, rfl, fun _ h => h, rfl, ec, di, t, k⟩
/-- «except C» takes (or not) an error of the class D -/
theorem r_as {D' : Addr} {Wout : WX} {b : Bool} (t : takesB K D' C b = true) (yes : b = true → ∀ a, H a = none → ts a (.ref D') d { nx := fun σ' H' => D.nx (σ'.set i none) H', rt := D.rt, bk := fun σ' H' => D.bk (σ'.set i none) H', ct := fun σ' H' => D.ct (σ'.set i none) H' } (σ.set i (some (.ref a))) H)
    (no : b = false → Wout (.ref D') d σ H) : wAs K (.ref C) i ts Wout D (.ref D') d σ H := ⟨b, (takes_at t).1, yes, no⟩
end
end Z
/-! # objects of own classes: methods -/
namespace Z
open PySem PySem.Spec PyProof.Rows L2
/-- the method m of the class x of the top: it keeps the promise sp at most at level k (its first argument: the object) -/
structure MDef (P : Program) (w : World) (K : PySem.W.Frag) (mg : Str → Option Value) (base : Heap) (CX : CXT) (x m : Str) (k : Nat) (ps : List Str) (sp : Sp) : Prop where
  ok : ∃ fd, FnOk P w K mg base CX k (He.ma K (He.ga K x) m) fd ps sp ∧ Binds K fd ps []
  cls : Cls K (He.ga K x)
  me : Meth K (He.ga K x) m (He.ma K (He.ga K x) m)
section
variable {P : Program} {w : World} {K : PySem.W.Frag} {mg : Str → Option Value} {base : Heap} {CX : CXT} {x m qual : Str} {st : Stmt} {fd : FuncData} {N ps : List Str} {k : Nat} {sp : Sp}
theorem MDef.mk' (F : FunD K m qual (defArgs st) (defBody st) (defScope st) [] [] (He.ma K (He.ga K x) m) fd) (c : Cls K (He.ga K x)) (me : Meth K (He.ga K x) m (He.ma K (He.ga K x) m)) (S : FnScope N ps (defScope st))
    (hb : ∀ (kV doc pm : Value) (an : Option Addr) (cdv ct : Value) (us : List Value), us.length = ps.length → bindArgs (PySem.W.fnOf m qual (defArgs st) (defBody st) (defScope st) .none kV doc pm an cdv ct) ⟨us, []⟩ = pure (ps.zip us))
    (len : ∀ xs G Q E, sp xs G Q E → xs.length = ps.length)
    (body : ∀ (cdv : Value) (A : Around) (fr : List Env) (s : Shared) (G : Hp) (xs : List V) (Q : VK) (E : XK), Room k (A.deeper (envOfC qual (defScope st) s.heap.objs.size (He.ma K (He.ga K x) m) cdv)) → sp xs G Q E →
      ∃ t, PSs (cxOf CX P w K mg base N qual (defScope st) (He.ma K (He.ga K x) m) cdv A fr s G E) (defBody st) t ∧ t { nx := fun _ G' => Q .non G', rt := Q } (start N xs) G) : MDef P w K mg base CX x m (k + 1) ps sp :=
  ⟨⟨fd, F.ok S len body, F.bindsN hb⟩, c, me⟩
theorem MDef.mkX (F : FunD K m qual (defArgs st) (defBody st) (defScope st) [] [] (He.ma K (He.ga K x) m) fd) (c : Cls K (He.ga K x)) (me : Meth K (He.ga K x) m (He.ma K (He.ga K x) m)) (S : FnScope N ps (defScope st))
    (hb : ∀ (kV doc pm : Value) (an : Option Addr) (cdv ct : Value) (us : List Value), us.length = ps.length → bindArgs (PySem.W.fnOf m qual (defArgs st) (defBody st) (defScope st) .none kV doc pm an cdv ct) ⟨us, []⟩ = pure (ps.zip us))
    (len : ∀ xs G Q E, sp xs G Q E → xs.length = ps.length)
    (body : ∀ (cdv : Value) (A : Around) (fr : List Env) (s : Shared) (G : Hp) (xs : List V) (Q : VK) (E : XK), Takes (cxOf (L2.CX P w) P w K mg base N qual (defScope st) (He.ma K (He.ga K x) m) cdv A fr s G E) (fun cls d _ H => E cls d H) →
      PassesOwn (model P w) (cxOf (L2.CX P w) P w K mg base N qual (defScope st) (He.ma K (He.ga K x) m) cdv A fr s G E).A (cxOf (L2.CX P w) P w K mg base N qual (defScope st) (He.ma K (He.ga K x) m) cdv A fr s G E).env (cxOf (L2.CX P w) P w K mg base N qual (defScope st) (He.ma K (He.ga K x) m) cdv A fr s G E).xe →
      Room k (A.deeper (envOfC qual (defScope st) s.heap.objs.size (He.ma K (He.ga K x) m) cdv)) → sp xs G Q E →
      ∃ t, PSs (cxOf (L2.CX P w) P w K mg base N qual (defScope st) (He.ma K (He.ga K x) m) cdv A fr s G E) (defBody st) t ∧ t { nx := fun _ G' => Q .non G', rt := Q } (start N xs) G) : MDef P w K mg base (L2.CX P w) x m (k + 1) ps sp :=
  MDef.mk' F c me S hb len fun cdv A fr s G xs Q E hr h => body cdv A fr s G xs Q E (takes_of rfl rfl rfl rfl) (passes_of rfl) hr h
end
/-- o.m(..): what is wished of its errors may speak of the slots -/
def tMe (C : Addr) (m : Str) (sp : Sp) (E : L2.St → XK) (ta : TE) (t : TA) : TE := fun σ H Q => ta σ H fun y H1 => ∃ a dx fs, y = .ref a ∧ H1 a = some (.ins C dx fs) ∧ fs.lookup m = none ∧ t σ H1 fun vs H2 => sp (y :: vs) H2 Q (E σ)
/-- the tree of o.m(es) -/
def MeTree (o : Expr) (m : Str) (apos pos : Pos) (es : List Expr) (env : Env) (pl : Sem Bool) : Prop :=
  eval (.Call (.Attribute o m apos) es [] pos) env =
    eval o env >>= fun ov => standAt apos.atName >>= fun _ => holding [ov] (getMethod ov m pl) >>= fun (f, first) => callWith pos f first (backTo pos (starEach es env)) (backToKw pos (keywordEach [] env))
theorem passNone {X : Cx} {E : L2.St → XK} : ∀ σ, PassesAt CX0 X σ (E σ) := fun _ _ _ _ _ _ _ h => h.elim
section
variable {X : Cx} {CX : CXT} {x m : Str} {k : Nat} {ps : List Str} {sp : Sp} {E : L2.St → XK} {o e : Expr} {es : List Expr} {ta : TE} {t : TA} {apos pos : Pos} {pl : Sem Bool}
theorem pe_me (he : PE X o ta) (D : MDef X.prog X.w X.K X.mg X.base CX x m k ps sp) (hx : ∀ σ, PassesAt CX X σ (E σ)) (hr : Room k X.A) (ha : PA X (e :: es) t) (tree : MeTree o m apos pos (e :: es) X.env pl := by rfl)
    (hst : starEach (e :: es) X.env = (false, eval e X.env) :: starEach es X.env := by rfl) (hpl : (backTo pos (starEach es X.env)).any (·.1) = false := by rfl) : PE X (.Call (.Attribute o m apos) (e :: es) [] pos) (tMe (He.ga X.K x) m sp E ta t) := by
  obtain ⟨⟨fd, F, b⟩, c, me⟩ := D
  constructor
  intro pins s σ H Q I h
  refine PySem.W.methodCall_KW (pl := pl) (thn (he.run pins s σ H _ I h) fun u s1 q => ?_) tree
  obtain ⟨y, H1, I1, ry, a, dx, fs, rfl, at_a, no, q⟩ := q
  obtain rfl : u = Value.ref a := ry
  refine getmeth_ok I1 at_a c me no (PySem.W.callWith_K (first := [.ref a]) (h₀ := X.base) I.ok.mod.kin me.kp ?_ hst hpl)
  refine thn (ha.run pos pins s1 σ H1 _ I1 q) fun us s2 q2 => ?_
  obtain ⟨vs, H2, I2, r, q2⟩ := q2
  exact ⟨I2.kIn, run_fnS (us := .ref a :: us) (vs := .ref a :: vs) F hr b (hx σ) I2 (.cons rfl r) q2⟩
theorem pe_me0 (he : PE X o ta) (D : MDef X.prog X.w X.K X.mg X.base CX x m k ps sp) (hx : ∀ σ, PassesAt CX X σ (E σ)) (hr : Room k X.A) (tree : MeTree o m apos pos [] X.env pl := by rfl) : PE X (.Call (.Attribute o m apos) [] [] pos) (tMe (He.ga X.K x) m sp E ta tNil) := by
  obtain ⟨⟨fd, F, b⟩, c, me⟩ := D
  constructor
  intro pins s σ H Q I h
  refine PySem.W.methodCall_KW (pl := pl) (thn (he.run pins s σ H _ I h) fun u s1 q => ?_) tree
  obtain ⟨y, H1, I1, ry, a, dx, fs, rfl, at_a, no, q⟩ := q
  obtain rfl : u = Value.ref a := ry
  exact getmeth_ok I1 at_a c me no (PySem.W.callWith_K0 (first := [.ref a]) I1.kIn me.kp (run_fnS (us := [.ref a]) (vs := [.ref a]) F hr b (hx σ) I1 (.cons rfl .nil) q))
end
/-- x(e, ..), a class with an __init__ that raises nothing -/
theorem pe_new {X : Cx} {x : Str} {k : Nat} {ps : List Str} {sp : Sp} {e : Expr} {es : List Expr} {t : TA} {p pos : Pos} (D : MDef X.prog X.w X.K X.mg X.base CX0 x "__init__" k ps sp) (M : Mk X.K (He.ga X.K x) (He.ma X.K (He.ga X.K x) "__init__")) (gm : X.mg x = some (.ref (He.ga X.K x))) (hr : Room (k + 1) X.A) (hg : Gl X x) (ha : PA X (e :: es) t)
    (hd : (x == ("__debug__" : Str)) = false := by decide) (he : starEach (e :: es) X.env = (false, eval e X.env) :: starEach es X.env := by rfl) (hpl : (backTo pos (starEach es X.env)).any (·.1) = false := by rfl) :
    PE X (.Call (.Name x p) (e :: es) [] pos) (tMake (He.ga X.K x) sp [] E0 t) := by
  obtain ⟨⟨fd, F, b⟩, _, _⟩ := D
  exact pe_make M F hr hg gm b .nil pass0 ha (hdb := hd) (he := he) (hpl := hpl)
theorem pe_new0 {X : Cx} {x : Str} {k : Nat} {ps : List Str} {sp : Sp} {p pos : Pos} (D : MDef X.prog X.w X.K X.mg X.base CX0 x "__init__" k ps sp) (M : Mk X.K (He.ga X.K x) (He.ma X.K (He.ga X.K x) "__init__")) (gm : X.mg x = some (.ref (He.ga X.K x))) (hr : Room (k + 1) X.A) (hg : Gl X x)
    (hd : (x == ("__debug__" : Str)) = false := by decide) : PE X (.Call (.Name x p) [] [] pos) (tMake (He.ga X.K x) sp [] E0 tNil) := by
  obtain ⟨⟨fd, F, b⟩, _, _⟩ := D
  exact pe_make0 M F hr hg gm b .nil pass0 (hdb := hd)
/-! ### an object that a def holds: at a, of the class D, its dict at dx; n its state, flds its fields -/
structure Ob {S : Type} (C : Addr → Prop) (I : Hp → Prop) (D a dx : Addr) (flds : S → List (Str × V)) : Prop where
  at_ : ∀ H, I H → ∃ n, H a = some (.ins D dx (flds n))
  put : ∀ H n, I H → I (upd H a (.ins D dx (flds n)))
  ca : C a
section
variable {S : Type} {C : Addr → Prop} {I : Hp → Prop} {D a dx : Addr} {flds : S → List (Str × V)} {H H1 : Hp} {cs : List Addr}
theorem Xt.ob (O : Ob C I D a dx flds) (x : Xt C I H H1) (n : S) : Xt C I H (upd H1 a (.ins D dx (flds n))) :=
  ⟨fun b o nb e => by
    rw [upd_ne fun z => nb (by rw [z]; exact O.ca)]
    exact x.1 b o nb e, O.put H1 n x.2⟩
end
section
variable {σ : L2.St} {H : Hp} {Q : VK} {K : PySem.W.Frag} {ta tv : TE} {t : TA} {D : Ends} {f m : Str} {C : Addr} {sp : Sp} {E : L2.St → XK} {rd : V → V → Hp → VK → Prop}
theorem r_fld (k : ta σ H fun x H1 => ∃ a C dx fs v, x = .ref a ∧ H1 a = some (.ins C dx fs) ∧ Cls K C ∧ NoAttr K C f ∧ fs.lookup f = some v ∧ Q v H1) : tFld K ta f σ H Q := k
theorem r_sfld (k : tv σ H fun y H1 => ta σ H1 fun x H2 => ∃ a C dx fs, x = .ref a ∧ H2 a = some (.ins C dx fs) ∧ Cls K C ∧ NoAttr K C f ∧ fs.length < 1000 ∧ D.nx σ (upd H2 a (.ins C dx (putF f y fs)))) : sFld K ta tv f D σ H := k
theorem r_me (k : ta σ H fun y H1 => ∃ a dx fs, y = .ref a ∧ H1 a = some (.ins C dx fs) ∧ fs.lookup m = none ∧ t σ H1 fun vs H2 => sp (y :: vs) H2 Q (E σ)) : tMe C m sp E ta t σ H Q := k
end
/-! ### an object of C that stays as it is while something else is done -/
section
variable {cs : List Addr} {C : Addr → Prop} {I : Hp → Prop} {H H1 : Hp} {a : Addr} {o : HO}
theorem wd_pin (W : Wd cs C I) (ca : C a) (no : ∀ ps, o ≠ .tbl ps) : Wd cs C fun H => I H ∧ H a = some o where
  ne := fun H b i c => W.ne H b i.1 c
  stay := fun H H' i s => ⟨W.stay H H' i.1 s, by
    rw [s a ca]
    exact i.2⟩
  tabC := W.tabC
  tabG := fun P hP H i => W.tabG P hP H i.1
  tabS := fun P hP H H' i t s => ⟨W.tabS P hP H H' i.1 t s, by
    rw [s a fun z => ?_]
    · exact i.2
    · obtain ⟨ps, e, _⟩ := W.tabG P hP H i.1
      rw [← z, i.2] at e
      exact no ps (Option.some.inj e)⟩
theorem Xt.unpin (x : Xt C (fun H => I H ∧ H a = some o) H H1) : Xt C I H H1 ∧ H1 a = some o := ⟨⟨x.1, x.2.1⟩, x.2.2⟩
end
end Z
/-! # constants of the top: tuples and lists that K holds, as data -/
namespace Z
open PySem PySem.Spec PyProof.Rows L2
def conV : Value → V
  | .none => .non
  | .bool b => .bl b
  | .int i _ => .int i
  | .str x _ => .str x
  | .ref a => .ref a
  | _ => .non
mutual
def conB (K : PySem.W.Frag) : PyData → Value → Bool
  | .none, .none => true
  | .bool b, .bool c => b == c
  | .int i, .int j _ => i == j
  | .str x, .str y _ => x == y
  | .tuple ds, .ref a => (match K.lookup a with
    | some ⟨.type "tuple", _, .seq its _, _⟩ => Nat.ble its.size 100000 && conAll K ds its.toList
    | _ => false)
  | _, _ => false
def conAll (K : PySem.W.Frag) : List PyData → List Value → Bool
  | [], [] => true
  | d :: ds, u :: us => conB K d u && conAll K ds us
  | _, _ => false
end
section
variable {K : PySem.W.Frag} {C : Addr → Prop} {H : Hp}
theorem small_le {n : Nat} (h : Nat.ble n 100000 = true) : n ≤ sizeLine := Nat.le_trans (Nat.le_of_ble_eq_true h) (by decide)
mutual
theorem conB_ok : ∀ (d : PyData) (u : Value), conB K d u = true → RelV (conV u) u ∧ Rp K C H (conV u) d
  | .none, u, h => by
    cases u with
    | none => exact ⟨rfl, .non⟩
    | _ => simp [conB] at h
  | .bool b, u, h => by
    cases u with
    | bool c =>
      have e : b = c := by simpa [conB] using h
      subst e
      exact ⟨rfl, .bl b⟩
    | _ => simp [conB] at h
  | .int i, u, h => by
    cases u with
    | int j t =>
      have e : i = j := by simpa [conB] using h
      subst e
      exact ⟨⟨t, rfl⟩, .int i⟩
    | _ => simp [conB] at h
  | .str x, u, h => by
    cases u with
    | str y t =>
      have e : x = y := by simpa [conB] using h
      subst e
      exact ⟨⟨t, rfl⟩, .str x⟩
    | _ => simp [conB] at h
  | .tuple ds, u, h => by
    cases u with
    | ref a =>
      unfold conB at h
      split at h
      · rename_i dd its n sl found
        obtain ⟨h1, h2⟩ := Bool.and_eq_true_iff.mp h
        obtain ⟨r, p⟩ := conAll_ok ds its.toList h2
        exact ⟨rfl, .tup (Or.inr fun H' => Or.inr ⟨_, its, n, found, rfl, rfl, small_le h1, r⟩) p⟩
      · cases h
    | _ => simp [conB] at h
  | .list _, u, h => by
    cases u <;> simp [conB] at h
  | .dict _, u, h => by
    cases u <;> simp [conB] at h
theorem conAll_ok : ∀ (ds : List PyData) (us : List Value), conAll K ds us = true → Vals (us.map conV) us ∧ RpAll K C H (us.map conV) ds
  | [], [], _ => ⟨.nil, .nil⟩
  | [], _ :: _, h => by simp [conAll] at h
  | _ :: _, [], h => by simp [conAll] at h
  | d :: ds, u :: us, h => by
    unfold conAll at h
    obtain ⟨h1, h2⟩ := Bool.and_eq_true_iff.mp h
    obtain ⟨r1, p1⟩ := conB_ok d u h1
    obtain ⟨r2, p2⟩ := conAll_ok ds us h2
    exact ⟨.cons r1 r2, .cons p1 p2⟩
end
/-- the constant at a, wherever it is read -/
theorem con_at {a : Addr} {d : PyData} (h : conB K d (.ref a) = true) : Rp K C H (.ref a) d := (conB_ok d (.ref a) h).2
theorem rp_tup {a : Addr} {ds : List PyData} (h : Rp K C H (.ref a) (.tuple ds)) : ∃ xs, StT K C H a xs ∧ RpAll K C H xs ds := by
  cases h with
  | tup s r => exact ⟨_, s, r⟩
theorem rp_lst {a : Addr} {ds : List PyData} (h : Rp K C H (.ref a) (.list ds)) : ∃ xs, StM C H a xs ∧ RpAll K C H xs ds := by
  cases h with
  | lst s r => exact ⟨_, s, r⟩
/-- texts as data are these texts -/
theorem all_strs : ∀ {ws : List Str} {xs : List V}, RpAll K C H xs (ws.map PyData.str) → xs = ws.map V.str
  | [], _, .nil => rfl
  | _ :: _, _, .cons h t => by
    rw [h.eq_str, all_strs t]
    rfl
theorem inV_strs (x : Str) (ws : List Str) : inV (.str x) (ws.map V.str) = decide (x ∈ ws) := by
  unfold inV
  rw [Bool.eq_iff_iff, List.any_eq_true, decide_eq_true_iff]
  constructor
  · rintro ⟨y, hy, e⟩
    obtain ⟨z, hz, rfl⟩ := List.mem_map.mp hy
    have e2 : z = x := beq_iff_eq.mp e
    rw [← e2]
    exact hz
  · intro h
    exact ⟨.str x, List.mem_map.mpr ⟨x, h, rfl⟩, beq_iff_eq.mpr rfl⟩
theorem flat_strs (ws : List Str) : (ws.map V.str).all flatV = true := by
  rw [List.all_eq_true]
  intro y hy
  obtain ⟨z, _, rfl⟩ := List.mem_map.mp hy
  rfl
variable {Q : VK} {x : Str} {ws : List Str} {a : Addr}
/-- text in, not in a tuple of texts -/
theorem r_inW (h : Rp K C H (.ref a) (.tuple (ws.map PyData.str))) (k : Q (.bl (decide (x ∈ ws))) H) : rInG K (.str x) (.ref a) H Q := by
  obtain ⟨xs, s, r⟩ := rp_tup h
  have e := all_strs r
  subst e
  refine Or.inl ⟨a, _, rfl, Or.inr s.sq, rfl, flat_strs ws, ?_⟩
  show Q (.bl (inV (.str x) (ws.map V.str))) H
  rw [inV_strs]
  exact k
theorem r_ninW (h : Rp K C H (.ref a) (.tuple (ws.map PyData.str))) (k : Q (.bl (!decide (x ∈ ws))) H) : rNinG K (.str x) (.ref a) H Q := by
  obtain ⟨xs, s, r⟩ := rp_tup h
  have e := all_strs r
  subst e
  refine Or.inl ⟨a, _, rfl, Or.inr s.sq, rfl, flat_strs ws, ?_⟩
  show Q (.bl (!inV (.str x) (ws.map V.str))) H
  rw [inV_strs]
  exact k
end
end Z
/-! # values by what they are: the state of a def as data, roots that are one's own, and how it stands over a heap -/
namespace Z
open PySem PySem.Spec PyProof.Rows L2 GxR
/-- how a value is held: fz: for good; ls s: a list of one's own, its items held by s; mp s: a dict (keys ints and texts); mt s: a tuple whose items are held by s, on its way out of a def; st: a set; ob: an object, by its number; rd: a list that is only read (the script, a constant); tn: a tuple whose object is known -/
inductive Sh | fz | rd | tn | ls (s : Sh) | mp (s : Sh) | mt (s : Sh) | st | ob
  deriving DecidableEq
structure Vl where
  d : PyData
  s : Sh
  l : Bool
abbrev Vl.f (d : PyData) : Vl := ⟨d, .fz, false⟩
structure Xn where
  cls : Str
  fs : Option (List (Str × PyData))
structure Ob1 where
  cls : Str
  fs : List (Str × Vl)
structure Sta where
  sl : List (Option Vl)
  ob : List Ob1
inductive Hd | val (w : Vl) | slot (i : Nat)
inductive Rs (α : Type) | no | ok (a : α) (s : Sta) | ex (e : Xn) (s : Sta)
def kD : Key → PyData
  | .inl i => .int i
  | .inr x => .str x
/-- items one by one -/
inductive OwL (P : V → PyData → List Addr → Prop) : List V → List PyData → List Addr → Prop
  | nil : OwL P [] [] []
  | cons {v : V} {d : PyData} {f g : List Addr} {vs : List V} {ds : List PyData} : P v d f → OwL P vs ds g → OwL P (v :: vs) (d :: ds) (f ++ g)
/-- v is d, held by s; fp: the objects of its own -/
def Ow (K : PySem.W.Frag) (C : Addr → Prop) (H : Hp) : Sh → V → PyData → List Addr → Prop
  | .fz, v, d, fp => fp = [] ∧ Rp K C H v d
  | .rd, v, d, fp => fp = [] ∧ ∃ (a : Addr) (vs : List V) (ds : List PyData), v = .ref a ∧ d = .list ds ∧ StL K C H a vs ∧ RpAll K C H vs ds
  | .tn, v, d, fp => fp = [] ∧ ∃ (a : Addr) (vs : List V) (ds : List PyData) (o : Obj), v = .ref a ∧ d = .tuple ds ∧ ¬ C a ∧ H a = some (.frz o (.tup vs)) ∧ o.dict = none ∧ RpAll K C H vs ds
  | .ls s, v, d, fp => ∃ (a : Addr) (vs : List V) (ds : List PyData) (f : List Addr), v = .ref a ∧ d = .list ds ∧ H a = some (.lst vs) ∧ OwL (Ow K C H s) vs ds f ∧ fp = a :: f
  | .mp s, v, d, fp => ∃ (a : Addr) (kvs : List (Key × V)) (ds : List PyData) (f : List Addr), v = .ref a ∧ d = .dict ((kvs.map fun p => kD p.1).zip ds) ∧ H a = some (.dK kvs) ∧ OwL (Ow K C H s) (kvs.map (·.2)) ds f ∧ fp = a :: f
  | .mt s, v, d, fp => ∃ (a : Addr) (vs : List V) (ds : List PyData), v = .ref a ∧ d = .tuple ds ∧ StT K C H a vs ∧ OwL (Ow K C H s) vs ds fp
  | .st, _, _, _ => False
  | .ob, _, _, _ => False
section
variable {K : PySem.W.Frag} {C C' : Addr → Prop} {H H' : Hp} {fp : List Addr} {s : Sh} {v : V} {d : PyData} {vs : List V} {ds : List PyData} {a : Addr}
theorem OwL.imp {P P' : V → PyData → List Addr → Prop} {A B : Addr → Prop} (h : ∀ v d f, (∀ a ∈ f, A a) → P v d f → P' v d f) : ∀ {vs : List V} {ds : List PyData} {f : List Addr}, (∀ a ∈ f, A a) → OwL P vs ds f → OwL P' vs ds f
  | _, _, _, _, .nil => .nil
  | _, _, _, hA, .cons p r => .cons (h _ _ _ (fun a ha => hA a (List.mem_append_left _ ha)) p) (OwL.imp (B := B) h (fun a ha => hA a (List.mem_append_right _ ha)) r)
theorem OwL.mem {P : V → PyData → List Addr → Prop} {A : Addr → Prop} (h : ∀ v d f, P v d f → ∀ a ∈ f, A a) : ∀ {vs : List V} {ds : List PyData} {f : List Addr}, OwL P vs ds f → ∀ a ∈ f, A a
  | _, _, _, .nil, _, q => by cases q
  | _, _, _, .cons p r, a, q => by
    rcases List.mem_append.mp q with q | q
    · exact h _ _ _ p a q
    · exact OwL.mem h r a q
theorem OwL.fz : ∀ {vs : List V} {ds : List PyData} {f : List Addr}, OwL (Ow K C H .fz) vs ds f → f = [] ∧ RpAll K C H vs ds
  | _, _, _, .nil => ⟨rfl, .nil⟩
  | _, _, _, .cons p r => by
    obtain ⟨rfl, q⟩ := p
    obtain ⟨rfl, q2⟩ := OwL.fz r
    exact ⟨rfl, .cons q q2⟩
theorem OwL.of_fz : ∀ {vs : List V} {ds : List PyData}, RpAll K C H vs ds → OwL (Ow K C H .fz) vs ds []
  | _, _, .nil => .nil
  | _, _, .cons p r => .cons (f := []) ⟨rfl, p⟩ (OwL.of_fz r)
theorem OwL.len {P : V → PyData → List Addr → Prop} : ∀ {vs : List V} {ds : List PyData} {f : List Addr}, OwL P vs ds f → vs.length = ds.length
  | _, _, _, .nil => rfl
  | _, _, _, .cons _ r => congrArg (· + 1) (OwL.len r)
theorem OwL.app {P : V → PyData → List Addr → Prop} : ∀ {vs ws : List V} {ds es : List PyData} {f g : List Addr}, OwL P vs ds f → OwL P ws es g → OwL P (vs ++ ws) (ds ++ es) (f ++ g)
  | _, _, _, _, _, _, .nil, q => q
  | _, _, _, _, _, _, .cons p r, q => by
    rw [List.append_assoc]
    exact .cons p (OwL.app r q)
/-- what is read for good stays, where what may change does not touch it -/
structure Mv (C : Addr → Prop) (H : Hp) (C' : Addr → Prop) (H' : Hp) : Prop where
  mv : ∀ a o, H a = some o → ¬ C a → H' a = some o ∧ ¬ C' a
theorem Rd.mv (m : Mv C H C' H') (n : ¬ C a) {u : HO} (h : Rd H a u) : ¬ C' a ∧ Rd H' a u := by
  rcases h with h | ⟨o, h⟩
  · exact ⟨(m.mv a _ h n).2, Or.inl (m.mv a _ h n).1⟩
  · exact ⟨(m.mv a _ h n).2, Or.inr ⟨o, (m.mv a _ h n).1⟩⟩
theorem StL.mv (m : Mv C H C' H') {xs : List V} (h : StL K C H a xs) : StL K C' H' a xs := by
  rcases h with ⟨n, h⟩ | h
  · exact Or.inl (Rd.mv m n h)
  · exact Or.inr h
theorem StT.mv (m : Mv C H C' H') {xs : List V} (h : StT K C H a xs) : StT K C' H' a xs := by
  rcases h with ⟨n, h⟩ | h
  · exact Or.inl (Rd.mv m n h)
  · exact Or.inr h
theorem StM.mv (m : Mv C H C' H') {xs : List V} (h : StM C H a xs) : StM C' H' a xs := ⟨(m.mv a _ h.2 h.1).2, (m.mv a _ h.2 h.1).1⟩
mutual
theorem Rp.mv (m : Mv C H C' H') : ∀ {d : PyData} {v : V}, Rp K C H v d → Rp K C' H' v d
  | _, _, .non => .non
  | _, _, .bl b => .bl b
  | _, _, .int i => .int i
  | _, _, .str x => .str x
  | .list _, _, .lst s r => .lst (s.mv m) (RpAll.mv m r)
  | .tuple _, _, .tup s r => .tup (s.mv m) (RpAll.mv m r)
theorem RpAll.mv (m : Mv C H C' H') : ∀ {ds : List PyData} {vs : List V}, RpAll K C H vs ds → RpAll K C' H' vs ds
  | [], _, .nil => .nil
  | _ :: _, _, .cons h t => .cons (Rp.mv m h) (RpAll.mv m t)
end
theorem Ow.mv (m : Mv C H C' H') : ∀ {s : Sh} {v : V} {d : PyData} {fp : List Addr}, (∀ a ∈ fp, H' a = H a) → Ow K C H s v d fp → Ow K C' H' s v d fp
  | .fz, _, _, _, _, ⟨e, r⟩ => ⟨e, r.mv m⟩
  | .rd, _, _, _, _, ⟨e, a, vs, ds, e1, e2, st, r⟩ => ⟨e, a, vs, ds, e1, e2, st.mv m, r.mv m⟩
  | .tn, _, _, _, _, ⟨e, a, vs, ds, o, e1, e2, n, h, nd, r⟩ => ⟨e, a, vs, ds, o, e1, e2, (m.mv a _ h n).2, (m.mv a _ h n).1, nd, r.mv m⟩
  | .ls s, _, _, _, k, ⟨a, vs, ds, f, e1, e2, e3, o, e4⟩ => by
    subst e1 e2 e4
    exact ⟨a, vs, ds, f, rfl, rfl, by rw [k a List.mem_cons_self]; exact e3, OwL.imp (A := fun a => H' a = H a) (B := fun _ => True) (fun v d f hf p => Ow.mv m hf p) (fun a ha => k a (List.mem_cons_of_mem _ ha)) o, rfl⟩
  | .mp s, _, _, _, k, ⟨a, kvs, ds, f, e1, e2, e3, o, e4⟩ => by
    subst e1 e2 e4
    exact ⟨a, kvs, ds, f, rfl, rfl, by rw [k a List.mem_cons_self]; exact e3, OwL.imp (A := fun a => H' a = H a) (B := fun _ => True) (fun v d f hf p => Ow.mv m hf p) (fun a ha => k a (List.mem_cons_of_mem _ ha)) o, rfl⟩
  | .mt s, _, _, _, k, ⟨a, vs, ds, e1, e2, st, o⟩ => ⟨a, vs, ds, e1, e2, st.mv m, OwL.imp (A := fun a => H' a = H a) (B := fun _ => True) (fun v d f hf p => Ow.mv m hf p) k o⟩
  | .st, _, _, _, _, h => h.elim
  | .ob, _, _, _, _, h => h.elim
theorem Ow.there : ∀ {s : Sh} {v : V} {d : PyData} {fp : List Addr}, Ow K C H s v d fp → ∀ a ∈ fp, ∃ o, H a = some o
  | .fz, _, _, _, ⟨e, _⟩, a, q => by
    rw [e] at q
    cases q
  | .rd, _, _, _, ⟨e, _⟩, a, q => by
    rw [e] at q
    cases q
  | .tn, _, _, _, ⟨e, _⟩, a, q => by
    rw [e] at q
    cases q
  | .ls s, _, _, _, ⟨a, vs, ds, f, e1, e2, e3, o, e4⟩, b, q => by
    rw [e4] at q
    rcases List.mem_cons.mp q with rfl | q
    · exact ⟨_, e3⟩
    · exact OwL.mem (A := fun a => ∃ o, H a = some o) (fun v d f p => Ow.there p) o b q
  | .mp s, _, _, _, ⟨a, vs, ds, f, e1, e2, e3, o, e4⟩, b, q => by
    rw [e4] at q
    rcases List.mem_cons.mp q with rfl | q
    · exact ⟨_, e3⟩
    · exact OwL.mem (A := fun a => ∃ o, H a = some o) (fun v d f p => Ow.there p) o b q
  | .mt s, _, _, _, ⟨a, vs, ds, e1, e2, st, o⟩, b, q => OwL.mem (A := fun a => ∃ o, H a = some o) (fun v d f p => Ow.there p) o b q
  | .st, _, _, _, h, _, _ => h.elim
  | .ob, _, _, _, h, _, _ => h.elim
/-- a tuple of one's own things -/
def Sh.tpl : Sh → Bool
  | .mt _ => true
  | _ => false
/-- lists may be held for good -/
def Sh.fzOk : Sh → Bool
  | .fz => true
  | .tn => true
  | .ls s => s.fzOk
  | _ => false
theorem Ow.fz (le : ∀ a, C' a → C a) : ∀ {s : Sh} {v : V} {d : PyData} {fp : List Addr}, s.fzOk = true → (∀ a ∈ fp, ¬ C' a) → Ow K C H s v d fp → Rp K C' H v d
  | .fz, _, _, _, _, _, ⟨_, r⟩ => r.less le
  | .rd, _, _, _, ok, _, _ => by cases ok
  | .tn, _, _, _, _, _, ⟨_, a, vs, ds, o, e1, e2, n, h, _, r⟩ => by
    subst e1 e2
    exact .tup (Or.inl ⟨fun c => n (le a c), Or.inr ⟨o, h⟩⟩) (r.less le)
  | .ls s, _, _, _, ok, n, ⟨a, vs, ds, f, e1, e2, e3, o, e4⟩ => by
    subst e1 e2 e4
    refine .lst ⟨n a List.mem_cons_self, e3⟩ ?_
    have n' : ∀ a ∈ f, ¬ C' a := fun b hb => n b (List.mem_cons_of_mem _ hb)
    clear e3 n
    induction o with
    | nil => exact .nil
    | cons p r ih => exact .cons (Ow.fz le (s := s) ok (fun a ha => n' a (List.mem_append_left _ ha)) p) (ih fun a ha => n' a (List.mem_append_right _ ha))
  | .mp _, _, _, _, ok, _, _ => by cases ok
  | .mt _, _, _, _, ok, _, _ => by cases ok
  | .st, _, _, _, ok, _, _ => by cases ok
  | .ob, _, _, _, ok, _, _ => by cases ok
end
/-- what is copied as it is -/
def Sh.cp : Sh → Bool
  | .fz => true
  | .rd => true
  | .tn => true
  | _ => false
theorem Ow.cp {K : PySem.W.Frag} {C : Addr → Prop} {H : Hp} {s : Sh} {v : V} {d : PyData} {fp : List Addr} (c : s.cp = true) (o : Ow K C H s v d fp) : fp = [] := by
  cases s with
  | fz => exact o.1
  | rd => exact o.1
  | tn => exact o.1
  | _ => cases c
/-! ### a def's state over the heap -/
/-- what a def is called with: cs: tables; B: what may change elsewhere (tables too); H0: the heap at its entry; f0: what it was lent; v0: its arguments; cv: the slots of names that comprehensions bind; xc: the fields of the error that an except suite holds, at their place; xp: what is known of the slots there -/
structure Fr where
  K : PySem.W.Frag
  cs : List Addr
  B : Addr → Prop
  H0 : Hp
  f0 : List Addr
  v0 : List V
  cv : List Nat
  xc : Option (Addr × List (Str × PyData))
  xp : L2.St → Prop
inductive Ix | pd (j : Nat) | sl (i : Nat)
  deriving DecidableEq
abbrev Pd := List (V × Hd)
/-- the roots -/
def Rt (p : Pd) (s : Sta) (σ : L2.St) : Ix → V → Vl → Prop
  | .pd j, v, w => p[j]? = some (v, .val w)
  | .sl i, v, w => σ[i]? = some (some v) ∧ s.sl[i]? = some (some w)
def CF (G : Fr) (F : Ix → List Addr) (a : Addr) : Prop := G.B a ∨ ∃ x, a ∈ F x
/-- what is plain of slots and pile -/
structure Wf (G : Fr) (p : Pd) (s : Sta) (σ : L2.St) : Prop where
  hd : ∀ (j : Nat) v i, p[j]? = some (v, .slot i) → σ[i]? = some (some v) ∧ i ∉ G.cv
  len : σ.length = s.sl.length
  slv : ∀ (i : Nat) w, s.sl[i]? = some (some w) → ∃ v, σ[i]? = some (some v)
  lent : ∀ (i : Nat) w, s.sl[i]? = some (some w) → w.l = true → ∃ v, G.v0[i]? = some v ∧ σ[i]? = some (some v)
  xs : G.xp σ
/-- what is asked of the slots is not asked of those of T -/
def XD (G : Fr) (T : List Nat) : Prop := ∀ σ σ' : L2.St, (∀ k, k ∉ T → σ'[k]? = σ[k]?) → G.xp σ → G.xp σ'
/-- more is asked of the slots, errors are held otherwise -/
def Fr.sx (G : Fr) (xc : Option (Addr × List (Str × PyData))) (xp : L2.St → Prop) : Fr := { G with xc := xc, xp := xp }
/-- slot i holds v -/
def Fr.at (G : Fr) (i : Nat) (v : V) : Fr := G.sx G.xc fun σ => G.xp σ ∧ σ[i]? = some (some v)
theorem XD.tt {K : PySem.W.Frag} {cs : List Addr} {B : Addr → Prop} {H0 : Hp} {f0 : List Addr} {v0 : List V} {cv T : List Nat} {xc : Option (Addr × List (Str × PyData))} : XD ⟨K, cs, B, H0, f0, v0, cv, xc, fun _ => True⟩ T := fun _ _ _ _ => trivial
theorem XD.sx {G : Fr} {T : List Nat} {i : Nat} {v : V} {xc : Option (Addr × List (Str × PyData))} (h : XD G T) (n : i ∉ T) : XD (G.sx xc fun σ => G.xp σ ∧ σ[i]? = some (some v)) T := fun σ σ' k q => ⟨h σ σ' k q.1, (k i n).trans q.2⟩
theorem XD.at {G : Fr} {T : List Nat} {i : Nat} {v : V} (h : XD G T) (n : i ∉ T) : XD (G.at i v) T := h.sx n
theorem XD.set {G : Fr} {i : Nat} {σ : L2.St} {o : Option V} (h : XD G [i]) (q : G.xp σ) : G.xp (σ.set i o) := h σ _ (fun k n => List.getElem?_set_ne fun e => n (by rw [e]; exact List.mem_singleton.mpr rfl)) q
structure RLw (G : Fr) (p : Pd) (s : Sta) (σ : L2.St) (H : Hp) (F : Ix → List Addr) : Prop where
  own : ∀ x v w, Rt p s σ x v w → Ow G.K (CF G F) H w.s v w.d (F x)
  emp : ∀ x, F x ≠ [] → ∃ v w, Rt p s σ x v w
  dis : ∀ x y a, a ∈ F x → a ∈ F y → x = y
  nod : ∀ x, (F x).Nodup
  nb : ∀ x a, a ∈ F x → ¬ G.B a ∧ (a ∈ G.f0 ∨ G.H0 a = none)
  kp : ∀ a o, G.H0 a = some o → a ∉ G.f0 → a ∉ G.cs → H a = some o
  tab : ∀ P ∈ G.cs, G.B P ∧ TabG H P
  bd : ∀ a, G.B a → ∃ o, H a = some o
  fd : ∀ a ∈ G.f0, a ∉ G.cs ∧ ∃ o, H a = some o
  xcl : ∀ dd fs, G.xc = some (dd, fs) → H dd = some (.xd (fldV fs)) ∧ ¬ CF G F dd
  wf : Wf G p s σ
def RL (G : Fr) (p : Pd) (s : Sta) (σ : L2.St) (H : Hp) : Prop := ∃ F, RLw G p s σ H F
section
variable {G : Fr} {p p' : Pd} {s s' : Sta} {σ σ' : L2.St} {H H' : Hp} {F : Ix → List Addr} {v : V} {w : Vl} {d : PyData} {a : Addr} {i : Nat}
theorem RLw.there (r : RLw G p s σ H F) {x : Ix} {a : Addr} (h : a ∈ F x) : ∃ o, H a = some o := by
  obtain ⟨v, w, q⟩ := r.emp x (fun e => by rw [e] at h; cases h)
  exact (r.own x v w q).there a h
theorem RLw.cthere (r : RLw G p s σ H F) {a : Addr} (h : CF G F a) : ∃ o, H a = some o := by
  rcases h with h | ⟨x, h⟩
  · exact r.bd a h
  · exact r.there h
theorem RLw.new (r : RLw G p s σ H F) {a : Addr} (h : H a = none) : ¬ CF G F a := fun c => by
  obtain ⟨o, e⟩ := r.cthere c
  rw [h] at e
  cases e
theorem RLw.ncs (r : RLw G p s σ H F) {x : Ix} {a : Addr} (h : a ∈ F x) : a ∉ G.cs := fun q => (r.nb x a h).1 (r.tab a q).1
theorem RLw.noPd (r : RLw G p s σ H F) {j : Nat} (h : p.length ≤ j) : F (.pd j) = [] := by
  cases e : F (.pd j) with
  | nil => rfl
  | cons a f =>
    obtain ⟨v, w, q⟩ := r.emp (.pd j) (fun z => by rw [z] at e; cases e)
    have q' : p[j]? = some (v, .val w) := q
    rw [List.getElem?_eq_none_iff.mpr h] at q'
    cases q'
theorem getp {p : Pd} {q : V × Hd} {j : Nat} {x : V × Hd} (h : (p ++ [q])[j]? = some x) : p[j]? = some x ∨ (j = p.length ∧ x = q) := by
  rcases Nat.lt_or_ge j p.length with l | l
  · rw [List.getElem?_append_left l] at h
    exact Or.inl h
  · rw [List.getElem?_append_right l] at h
    cases e : j - p.length with
    | zero =>
      rw [e] at h
      have h' : q = x := by simpa using h
      exact Or.inr ⟨by omega, h'.symm⟩
    | succ n =>
      rw [e] at h
      simp at h
theorem getp_old {p : Pd} {q : V × Hd} {j : Nat} {x : V × Hd} (h : p[j]? = some x) : (p ++ [q])[j]? = some x := by
  rw [List.getElem?_append_left (List.getElem?_eq_some_iff.mp h).1]
  exact h
theorem getp_new {p : Pd} {q : V × Hd} : (p ++ [q])[p.length]? = some q := by
  rw [List.getElem?_append_right (Nat.le_refl _), Nat.sub_self]
  rfl
theorem Rt.old {q : V × Hd} {x : Ix} (h : Rt p s σ x v w) : Rt (p ++ [q]) s σ x v w := by
  cases x with
  | pd j => exact getp_old h
  | sl i => exact h
theorem Rt.inj {v' : V} {w' : Vl} {x : Ix} (h : Rt p s σ x v w) (h' : Rt p s σ x v' w') : v = v' ∧ w = w' := by
  cases x with
  | pd j =>
    have e := (show p[j]? = some (v, Hd.val w) from h).symm.trans h'
    injection e with e
    injection e with e1 e2
    injection e2 with e2
    exact ⟨e1, e2⟩
  | sl i =>
    have e1 := h.1.symm.trans h'.1
    have e2 := h.2.symm.trans h'.2
    injection e1 with e1
    injection e1 with e1
    injection e2 with e2
    injection e2 with e2
    exact ⟨e1, e2⟩
theorem Wf.push (f : Wf G p s σ) : Wf G (p ++ [(v, .val w)]) s σ := by
  refine ⟨fun j v i q => ?_, f.len, f.slv, f.lent, f.xs⟩
  rcases getp q with q | ⟨_, q⟩
  · exact f.hd j v i q
  · cases q
theorem Wf.pushS (f : Wf G p s σ) (h : σ[i]? = some (some v)) (n : i ∉ G.cv) : Wf G (p ++ [(v, .slot i)]) s σ := by
  refine ⟨fun j v i q => ?_, f.len, f.slv, f.lent, f.xs⟩
  rcases getp q with q | ⟨_, q⟩
  · exact f.hd j v i q
  · cases q
    exact ⟨h, n⟩
theorem Wf.pop {q : V × Hd} (f : Wf G (p ++ [q]) s σ) : Wf G p s σ := { f with hd := fun j v i q => f.hd j v i (getp_old q) }
/-- footprints with one exchanged -/
def Fs (F : Ix → List Addr) (x : Ix) (f : List Addr) : Ix → List Addr := fun y => if y = x then f else F y
theorem Fs_at {x : Ix} {f : List Addr} : Fs F x f x = f := if_pos rfl
theorem Fs_ne {x y : Ix} {f : List Addr} (h : y ≠ x) : Fs F x f y = F y := if_neg h
theorem Fs_self {x : Ix} : Fs F x (F x) = F := by
  funext y
  unfold Fs
  split
  · rename_i e
    rw [e]
  · rfl
theorem Fs_mem {x y : Ix} {f : List Addr} (h : a ∈ Fs F x f y) : (y = x ∧ a ∈ f) ∨ (y ≠ x ∧ a ∈ F y) := by
  by_cases z : y = x
  · rw [z, Fs_at] at h
    exact Or.inl ⟨z, h⟩
  · rw [Fs_ne z] at h
    exact Or.inr ⟨z, h⟩
/-- one root is exchanged: what it had as its own may change, go; new objects may come to it -/
theorem RLw.chg (r : RLw G p s σ H F) (x : Ix) (f : List Addr) (k : ∀ a o, H a = some o → a ∉ F x → a ∉ G.cs → H' a = some o) (kx : ∀ a ∈ F x, ∃ o, H' a = some o) (t : ∀ P ∈ G.cs, TabG H' P) (sub : ∀ a ∈ f, a ∈ F x ∨ H a = none) (nd : f.Nodup)
    (roots : ∀ y v w, y ≠ x → Rt p' s' σ' y v w → Rt p s σ y v w ∨ (F y = [] ∧ ∃ d, w = .f d ∧ Rp G.K (CF G (Fs F x f)) H' v d)) (stay : ∀ y v w, y ≠ x → Rt p s σ y v w → F y ≠ [] → ∃ v w, Rt p' s' σ' y v w)
    (ow : ∀ v w, Rt p' s' σ' x v w → Ow G.K (CF G (Fs F x f)) H' w.s v w.d f) (ne : f ≠ [] → ∃ v w, Rt p' s' σ' x v w) (wf : Wf G p' s' σ') : RLw G p' s' σ' H' (Fs F x f) := by
  have inF : ∀ y a, a ∈ F y → y ≠ x → a ∉ F x := fun y a h n h' => n (r.dis y x a h h')
  have m : Mv (CF G F) H (CF G (Fs F x f)) H' := ⟨fun a o e n => ⟨k a o e (fun z => n (Or.inr ⟨x, z⟩)) fun z => n (Or.inl (r.tab a z).1), fun c => by
    rcases c with c | ⟨y, c⟩
    · exact n (Or.inl c)
    · rcases Fs_mem c with ⟨_, c⟩ | ⟨_, c⟩
      · rcases sub a c with c | c
        · exact n (Or.inr ⟨x, c⟩)
        · rw [c] at e
          cases e
      · exact n (Or.inr ⟨y, c⟩)⟩⟩
  have there' : ∀ a o, H a = some o → ∃ o', H' a = some o' := fun a o e => by
    by_cases z : a ∈ F x
    · exact kx a z
    · by_cases z2 : a ∈ G.cs
      · obtain ⟨ps, e2, _⟩ := t a z2
        exact ⟨_, e2⟩
      · exact ⟨o, k a o e z z2⟩
  refine ⟨fun y v w q => ?_, fun y n => ?_, fun y z a hy hz => ?_, fun y => ?_, fun y a ha => ?_, fun a o e n1 n2 => ?_, fun P hP => ⟨(r.tab P hP).1, t P hP⟩, fun a b => ?_, fun a b => ?_, fun dd fs e => m.mv dd _ (r.xcl dd fs e).1 (r.xcl dd fs e).2, wf⟩
  · by_cases e : y = x
    · subst e
      rw [Fs_at]
      exact ow v w q
    · rw [Fs_ne e]
      rcases roots y v w e q with q | ⟨e0, d, rfl, rp⟩
      · refine (r.own y v w q).mv m fun a ha => ?_
        obtain ⟨o, e2⟩ := r.there ha
        rw [e2]
        exact k a o e2 (inF y a ha e) (r.ncs ha)
      · rw [e0]
        exact ⟨rfl, rp⟩
  · by_cases e : y = x
    · subst e
      rw [Fs_at] at n
      exact ne n
    · rw [Fs_ne e] at n
      obtain ⟨v, w, q⟩ := r.emp y n
      exact stay y v w e q n
  · rcases Fs_mem hy with ⟨e1, h1⟩ | ⟨n1, h1⟩ <;> rcases Fs_mem hz with ⟨e2, h2⟩ | ⟨n2, h2⟩
    · rw [e1, e2]
    · rcases sub a h1 with h1 | h1
      · exact (inF z a h2 n2 h1).elim
      · obtain ⟨o, e⟩ := r.there h2
        rw [h1] at e
        cases e
    · rcases sub a h2 with h2 | h2
      · exact (inF y a h1 n1 h2).elim
      · obtain ⟨o, e⟩ := r.there h1
        rw [h2] at e
        cases e
    · exact r.dis y z a h1 h2
  · by_cases e : y = x
    · rw [e, Fs_at]
      exact nd
    · rw [Fs_ne e]
      exact r.nod y
  · rcases Fs_mem ha with ⟨_, h1⟩ | ⟨_, h1⟩
    · rcases sub a h1 with h1 | h1
      · exact r.nb x a h1
      · refine ⟨fun b => ?_, Or.inr ?_⟩
        · obtain ⟨o, e⟩ := r.bd a b
          rw [h1] at e
          cases e
        · cases e : G.H0 a with
          | none => rfl
          | some o =>
            exfalso
            by_cases z : a ∈ G.cs
            · obtain ⟨ps, e2, _⟩ := (r.tab a z).2
              rw [h1] at e2
              cases e2
            · by_cases z2 : a ∈ G.f0
              · obtain ⟨_, o2, e2⟩ := r.fd a z2
                rw [h1] at e2
                cases e2
              · have := r.kp a o e z2 z
                rw [h1] at this
                cases this
    · exact r.nb y a h1
  · refine k a o (r.kp a o e n1 n2) (fun z => ?_) n2
    rcases (r.nb x a z).2 with q | q
    · exact n1 q
    · rw [q] at e
      cases e
  · obtain ⟨o, e⟩ := r.bd a b
    exact there' a o e
  · obtain ⟨n, o, e⟩ := r.fd a b
    exact ⟨n, there' a o e⟩
/-- the same roots over a heap that knows more -/
theorem RLw.grow (r : RLw G p s σ H F) (k : ∀ a o, H a = some o → a ∉ G.cs → H' a = some o) (t : ∀ P ∈ G.cs, TabG H' P) : RLw G p s σ H' F := by
  have q := r.chg (p' := p) (s' := s) (σ' := σ) (H' := H') (.pd p.length) (F (.pd p.length)) (fun a o e _ n => k a o e n) (fun a ha => by rw [r.noPd (Nat.le_refl _)] at ha; cases ha) t (fun a ha => Or.inl ha) (r.nod _)
    (fun y v w _ q => Or.inl q) (fun y v w _ q _ => ⟨v, w, q⟩) (fun v w q => by
      have q' : p[p.length]? = some (v, .val w) := q
      simp at q') (fun n => (n (r.noPd (Nat.le_refl _))).elim) r.wf
  rw [Fs_self] at q
  exact q
/-- what is copied as it is, is put on the pile -/
theorem RLw.pushC (r : RLw G p s σ H F) (h : Ow G.K (CF G F) H w.s v w.d []) : RLw G (p ++ [(v, .val w)]) s σ H F := by
  have e0 := r.noPd (Nat.le_refl p.length)
  have same : Fs F (.pd p.length) [] = F := by
    rw [← e0]
    exact Fs_self
  have q := r.chg (p' := p ++ [(v, .val w)]) (s' := s) (σ' := σ) (H' := H) (.pd p.length) [] (fun a o e _ _ => e) (fun a ha => by rw [e0] at ha; cases ha) (fun P hP => (r.tab P hP).2) (fun a ha => by cases ha) List.nodup_nil
    (fun y v' w' n q => by
      cases y with
      | sl i => exact Or.inl q
      | pd j =>
        rcases getp q with q | ⟨rfl, _⟩
        · exact Or.inl q
        · exact (n rfl).elim)
    (fun y v' w' _ q _ => ⟨v', w', q.old⟩) (fun v' w' q => by
      have q' : (p ++ [(v, Hd.val w)])[p.length]? = some (v', .val w') := q
      rw [getp_new] at q'
      injection q' with q'
      injection q' with e1 e2
      injection e2 with e2
      subst e1 e2
      rw [same]
      exact h) (fun n => (n rfl).elim) r.wf.push
  rw [same] at q
  exact q
/-- a value for good is put on the pile -/
theorem RLw.push (r : RLw G p s σ H F) (h : Rp G.K (CF G F) H v d) : RLw G (p ++ [(v, .val (.f d))]) s σ H F := r.pushC (w := .f d) ⟨rfl, h⟩
/-- a name's slot is put on the pile -/
theorem RLw.pushS (r : RLw G p s σ H F) (h : σ[i]? = some (some v)) (n : i ∉ G.cv) : RLw G (p ++ [(v, .slot i)]) s σ H F where
  own := fun x v' w' q => by
    cases x with
    | sl i => exact r.own (.sl i) v' w' q
    | pd j =>
      rcases getp q with q | ⟨rfl, e⟩
      · exact r.own (.pd j) v' w' q
      · injection e with e1 e2
        cases e2
  emp := fun x n => by
    obtain ⟨v', w', q⟩ := r.emp x n
    exact ⟨v', w', q.old⟩
  dis := r.dis
  nod := r.nod
  nb := r.nb
  kp := r.kp
  tab := r.tab
  bd := r.bd
  fd := r.fd
  xcl := r.xcl
  wf := r.wf.pushS h n
/-- a new root at the pile's top -/
theorem RLw.pushN (r : RLw G p s σ H F) {f : List Addr} (k : ∀ a o, H a = some o → a ∉ G.cs → H' a = some o) (t : ∀ P ∈ G.cs, TabG H' P) (new : ∀ a ∈ f, H a = none) (nd : f.Nodup) (ow : Ow G.K (CF G (Fs F (.pd p.length) f)) H' w.s v w.d f) :
    RLw G (p ++ [(v, .val w)]) s σ H' (Fs F (.pd p.length) f) :=
  r.chg (.pd p.length) f (fun a o e _ n => k a o e n) (fun a ha => by rw [r.noPd (Nat.le_refl _)] at ha; cases ha) t (fun a ha => Or.inr (new a ha)) nd
    (fun y v' w' n q => by
      cases y with
      | sl i => exact Or.inl q
      | pd j =>
        rcases getp q with q | ⟨rfl, _⟩
        · exact Or.inl q
        · exact (n rfl).elim)
    (fun y v' w' _ q _ => ⟨v', w', q.old⟩) (fun v' w' q => by
      have q' : (p ++ [(v, Hd.val w)])[p.length]? = some (v', .val w') := q
      rw [getp_new] at q'
      injection q' with q'
      injection q' with e1 e2
      injection e2 with e2
      subst e1 e2
      exact ow) (fun _ => ⟨v, w, getp_new⟩) r.wf.push
/-- the pile's top goes -/
theorem RLw.pop {q : V × Hd} (r : RLw G (p ++ [q]) s σ H F) : RLw G p s σ H (Fs F (.pd p.length) []) :=
  r.chg (.pd p.length) [] (fun a o e _ _ => e) (fun a ha => r.there ha) (fun P hP => (r.tab P hP).2) (fun a ha => by cases ha) List.nodup_nil
    (fun y v' w' _ q => Or.inl q.old) (fun y v' w' n q _ => by
      cases y with
      | sl i => exact ⟨v', w', q⟩
      | pd j =>
        rcases getp q with q | ⟨rfl, _⟩
        · exact ⟨v', w', q⟩
        · exact (n rfl).elim) (fun v' w' q => by
      have q' : p[p.length]? = some (v', .val w') := q
      simp at q') (fun n => (n rfl).elim) r.wf.pop
/-- a root is held for good from now on -/
theorem RLw.frz (r : RLw G p s σ H F) {x : Ix} (q : Rt p s σ x v w) (ok : w.s.fzOk = true) (roots : ∀ y v w, y ≠ x → Rt p' s' σ' y v w → Rt p s σ y v w) (stay : ∀ y v w, y ≠ x → Rt p s σ y v w → Rt p' s' σ' y v w) (at_x : ∀ v' w', Rt p' s' σ' x v' w' → v' = v ∧ w'.d = w.d ∧ w'.s = .fz)
    (wf : Wf G p' s' σ') : RLw G p' s' σ' H (Fs F x []) := by
  refine r.chg x [] (fun a o e _ _ => e) (fun a ha => r.there ha) (fun P hP => (r.tab P hP).2) (fun a ha => by cases ha) List.nodup_nil (fun y v' w' n q => Or.inl (roots y v' w' n q)) (fun y v' w' n q _ => ⟨v', w', stay y v' w' n q⟩) (fun v' w' q' => ?_) (fun n => (n rfl).elim) wf
  obtain ⟨rfl, e1, e2⟩ := at_x v' w' q'
  rw [e2, e1]
  refine ⟨rfl, Ow.fz (fun a c => ?_) ok (fun a ha c => ?_) (r.own x _ w q)⟩
  · rcases c with c | ⟨y, c⟩
    · exact Or.inl c
    · rcases Fs_mem c with ⟨_, c⟩ | ⟨_, c⟩
      · cases c
      · exact Or.inr ⟨y, c⟩
  · rcases c with c | ⟨y, c⟩
    · exact (r.nb x a ha).1 c
    · rcases Fs_mem c with ⟨_, c⟩ | ⟨n, c⟩
      · cases c
      · exact n (r.dis y x a c ha)
end
end Z
/-! # what a def does, as a function of its state; what it means of a reading -/
namespace Z
open PySem PySem.Spec PyProof.Rows L2 GxR
def Rs.bind {α β : Type} : Rs α → (α → Sta → Rs β) → Rs β
  | .no, _ => .no
  | .ok a s, k => k a s
  | .ex e s, _ => .ex e s
abbrev FE := Sta → Rs Hd
abbrev FA := Sta → Rs (List Hd)
abbrev FT := Sta → Rs Bool
inductive Fl | nx | rt (h : Hd) | bk | ct
abbrev FS := Sta → Rs Fl
def lookH (s : Sta) : Hd → Option Vl
  | .val w => if w.s.tpl = true then none else some w
  | .slot i => match s.sl[i]? with
    | some (some w) => if w.s.tpl = true then none else some w
    | _ => none
theorem lookH_val {s : Sta} {w w' : Vl} (h : lookH s (.val w') = some w) : w' = w ∧ w.s.tpl = false := by
  unfold lookH at h
  dsimp only at h
  split at h
  · cases h
  · rename_i n
    cases h
    exact ⟨rfl, by simpa using n⟩
theorem lookH_slot {s : Sta} {w : Vl} {i : Nat} (h : lookH s (.slot i) = some w) : s.sl[i]? = some (some w) ∧ w.s.tpl = false := by
  unfold lookH at h
  dsimp only at h
  split at h
  · rename_i w' e
    split at h
    · cases h
    · rename_i n
      cases h
      exact ⟨e, by simpa using n⟩
  · cases h
theorem lookH_tpl {s : Sta} {w : Vl} {hd : Hd} (h : lookH s hd = some w) : w.s.tpl = false := by
  cases hd with
  | val _ => exact (lookH_val h).2
  | slot _ => exact (lookH_slot h).2
/-- the error at d -/
def XcAt (G : Fr) (F : Ix → List Addr) (H : Hp) : Option (List (Str × PyData)) → Option Addr → Prop
  | none, d => d = none
  | some fs, d => ∃ dd, d = some dd ∧ H dd = some (.xd (fldV fs)) ∧ ¬ CF G F dd
def RLx (G : Fr) (p : Pd) (s : Sta) (σ : L2.St) (H : Hp) (e : Xn) (d : Option Addr) : Prop := ∃ F, RLw G p s σ H F ∧ XcAt G F H e.fs d
def PoX (G : Fr) (p : Pd) (σ : L2.St) (W : WX) (e : Xn) (s : Sta) : Prop := ∀ d H', RLx G p s σ H' e d → W (.ref (He.ga G.K e.cls)) d σ H'
def PoE (G : Fr) (p : Pd) (σ : L2.St) (Q : VK) (W : WX) : Rs Hd → Prop
  | .ok h s => ∀ v H', RL G (p ++ [(v, h)]) s σ H' → Q v H'
  | .ex e s => PoX G p σ W e s
  | .no => False
def PoT (G : Fr) (p : Pd) (σ : L2.St) (Q : Bool → Hp → Prop) (W : WX) : Rs Bool → Prop
  | .ok b s => ∀ H', RL G p s σ H' → Q b H'
  | .ex e s => PoX G p σ W e s
  | .no => False
def PoA (G : Fr) (p : Pd) (σ : L2.St) (Q : List V → Hp → Prop) (W : WX) : Rs (List Hd) → Prop
  | .ok hs s => ∀ vs H', vs.length = hs.length → RL G (p ++ vs.zip hs) s σ H' → Q vs H'
  | .ex e s => PoX G p σ W e s
  | .no => False
def PoS (G : Fr) (p : Pd) (D : Ends) (W : WX) : Rs Fl → Prop
  | .ok .nx s => ∀ σ' H', RL G p s σ' H' → D.nx σ' H'
  | .ok .bk s => ∀ σ' H', RL G p s σ' H' → D.bk σ' H'
  | .ok .ct s => ∀ σ' H', RL G p s σ' H' → D.ct σ' H'
  | .ok (.rt h) s => ∀ v σ' H', RL G (p ++ [(v, h)]) s σ' H' → D.rt v H'
  | .ex e s => ∀ d σ' H', RLx G p s σ' H' e d → W (.ref (He.ga G.K e.cls)) d σ' H'
  | .no => False
def SemE (G : Fr) (W : WX) (t : TE) (f : FE) : Prop := ∀ p s σ H Q, RL G p s σ H → PoE G p σ Q W (f s) → t σ H Q
def SemT (G : Fr) (W : WX) (t : TT) (f : FT) : Prop := ∀ p s σ H Q, RL G p s σ H → PoT G p σ Q W (f s) → t σ H Q
def SemA (G : Fr) (W : WX) (t : TA) (f : FA) : Prop := ∀ p s σ H Q, RL G p s σ H → PoA G p σ Q W (f s) → t σ H Q
/-- no slot waits on the pile -/
def NoS (p : Pd) : Prop := ∀ (j : Nat) v i, p[j]? ≠ some (v, .slot i)
def SemS (G : Fr) (W : WX) (t : TS) (f : FS) : Prop := ∀ p s σ H D, NoS p → RL G p s σ H → PoS G p D W (f s) → t D σ H

section
variable {G : Fr} {W : WX} {p q : Pd} {s : Sta} {σ : L2.St} {H H' : Hp} {F : Ix → List Addr} {v : V} {w : Vl} {d : PyData} {a : Addr} {i j : Nat} {h : Hd} {Q : VK}
theorem RLw.rl (r : RLw G p s σ H F) : RL G p s σ H := ⟨F, r⟩
/-- what a handle shows is a root -/
theorem RLw.look (r : RLw G p s σ H F) (e : p[j]? = some (v, h)) (l : lookH s h = some w) : ∃ x, Rt p s σ x v w := by
  cases h with
  | val w' =>
    obtain ⟨rfl, _⟩ := lookH_val l
    exact ⟨.pd j, e⟩
  | slot i => exact ⟨.sl i, (r.wf.hd j v i e).1, (lookH_slot l).1⟩
theorem RLw.lookO (r : RLw G p s σ H F) (e : p[j]? = some (v, h)) (l : lookH s h = some w) : ∃ x, Rt p s σ x v w ∧ Ow G.K (CF G F) H w.s v w.d (F x) := by
  obtain ⟨x, q⟩ := r.look e l
  exact ⟨x, q, r.own x v w q⟩
theorem pile_last {q : V × Hd} : (p ++ [q])[p.length]? = some q := getp_new
/-- the pile's last n go -/
theorem RLw.popN : ∀ {q : Pd} {F : Ix → List Addr}, RLw G (p ++ q) s σ H F → ∃ F', RLw G p s σ H F' ∧ ∀ a, CF G F' a → CF G F a := by
  intro q
  induction h : q.length generalizing q with
  | zero =>
    intro F r
    cases List.eq_nil_of_length_eq_zero h
    rw [List.append_nil] at r
    exact ⟨F, r, fun _ c => c⟩
  | succ n ih =>
    intro F r
    have ne : q ≠ [] := fun e => by rw [e] at h; cases h
    obtain ⟨q', x, rfl⟩ : ∃ q' x, q = q' ++ [x] := ⟨q.dropLast, q.getLast ne, (List.dropLast_concat_getLast ne).symm⟩
    rw [← List.append_assoc] at r
    have r1 := r.pop
    have hl : q'.length = n := by simpa using h
    obtain ⟨F', r2, le⟩ := ih hl r1
    refine ⟨F', r2, fun a c => ?_⟩
    rcases le a c with c | ⟨x, c⟩
    · exact Or.inl c
    · rcases Fs_mem c with ⟨_, c⟩ | ⟨_, c⟩
      · cases c
      · exact Or.inr ⟨x, c⟩
theorem RL.popN {q : Pd} (r : RL G (p ++ q) s σ H) : RL G p s σ H := by
  obtain ⟨F, r⟩ := r
  obtain ⟨F', r', _⟩ := r.popN
  exact ⟨F', r'⟩
/-- what was asked of the pile's last is there, newly made or not: it stands in their place -/
theorem RLw.res {q : Pd} (r : RLw G (p ++ q) s σ H F) {f : List Addr} (k : ∀ a o, H a = some o → a ∉ G.cs → H' a = some o) (t : ∀ P ∈ G.cs, TabG H' P) (new : ∀ a ∈ f, H a = none) (nd : f.Nodup) (ow : Ow G.K (fun a => CF G F a ∨ a ∈ f) H' w.s v w.d f) : RL G (p ++ [(v, .val w)]) s σ H' := by
  obtain ⟨F1, r1, le⟩ := r.popN
  refine ⟨_, r1.pushN k t new nd (ow.mv ⟨fun a o e n => ⟨e, fun c => n ?_⟩⟩ fun _ _ => rfl)⟩
  rcases c with c | ⟨x, c⟩
  · exact Or.inl (Or.inl c)
  · rcases Fs_mem c with ⟨_, c⟩ | ⟨_, c⟩
    · exact Or.inr c
    · exact Or.inl (le a (Or.inr ⟨x, c⟩))
/-- .. a value for good -/
theorem RLw.resF {q : Pd} (r : RLw G (p ++ q) s σ H F) (h : Rp G.K (CF G F) H v d) : RL G (p ++ [(v, .val (.f d))]) s σ H :=
  r.res (f := []) (fun _ _ e _ => e) (fun P hP => (r.tab P hP).2) (fun a ha => by cases ha) List.nodup_nil ⟨rfl, h.less fun a c => c.elim id fun z => by cases z⟩
end
section
variable {G : Fr} {W : WX} {p : Pd} {s : Sta} {σ : L2.St} {H : Hp} {Q : VK} {te ta tb : TE} {fe fa fb : FE} {d : PyData} {v : V} {i : Nat}
theorem Rs.bind_ok {α β : Type} {a : α} {s : Sta} {k : α → Sta → Rs β} : (Rs.ok a s).bind k = k a s := rfl
theorem Rs.bind_no {α β : Type} {k : α → Sta → Rs β} : (Rs.no : Rs α).bind k = Rs.no := rfl
theorem Rs.bind_ex {α β : Type} {e : Xn} {s : Sta} {k : α → Sta → Rs β} : (Rs.ex e s : Rs α).bind k = Rs.ex e s := rfl
/-- an expression, and what goes on with its value on the pile -/
theorem SemE.bind {β : Type} (h : SemE G W te fe) {k : Hd → Sta → Rs β} {P : Rs β → Prop} (no : ¬ P .no) (r : RL G p s σ H) (post : P ((fe s).bind k)) (exc : ∀ e s', P (.ex e s') → PoX G p σ W e s')
    (go : ∀ hd s' v H', P (k hd s') → RL G (p ++ [(v, hd)]) s' σ H' → Q v H') : te σ H Q := by
  refine h p s σ H Q r ?_
  cases e : fe s with
  | no =>
    rw [e] at post
    exact no post
  | ok hd s' =>
    rw [e] at post
    exact fun v H' r' => go hd s' v H' post r'
  | ex x s' =>
    rw [e] at post
    exact exc x s' post
/-! ### constants, names -/
def fC (d : PyData) : FE := fun s => .ok (.val (.f d)) s
theorem sem_c (h : ∀ C H, Rp G.K C H v d) : SemE G W (tC v) (fC d) := fun p s σ H Q r post => by
  obtain ⟨F, r⟩ := r
  exact post v H ⟨F, r.push (h _ _)⟩
theorem sem_int {n : Int} : SemE G W (tC (.int n)) (fC (.int n)) := sem_c fun _ _ => .int n
theorem sem_str {x : Str} : SemE G W (tC (.str x)) (fC (.str x)) := sem_c fun _ _ => .str x
theorem sem_bl {b : Bool} : SemE G W (tC (.bl b)) (fC (.bool b)) := sem_c fun _ _ => .bl b
theorem sem_non : SemE G W (tC .non) (fC .none) := sem_c fun _ _ => .non
theorem sem_con {x : Str} (h : conB G.K d (.ref (He.ga G.K x)) = true) : SemE G W (tC (.ref (He.ga G.K x))) (fC d) := sem_c fun _ _ => con_at h
/-- a name: what is for good is had at once, else the slot waits -/
def fN (i : Nat) : FE := fun s => match s.sl[i]? with
  | some (some w) => if w.s.cp = true then .ok (.val ⟨w.d, w.s, false⟩) s else .ok (.slot i) s
  | _ => .no
/-- a name that a comprehension binds -/
def fNv (i : Nat) : FE := fun s => match s.sl[i]? with
  | some (some w) => if w.s.cp = true then .ok (.val ⟨w.d, w.s, false⟩) s else .no
  | _ => .no
theorem sem_n (n : i ∉ G.cv) : SemE G W (tVar i) (fN i) := fun p s σ H Q r post => by
  obtain ⟨F, r⟩ := r
  unfold fN at post
  split at post
  · rename_i w e
    obtain ⟨v, hv⟩ := r.wf.slv i w e
    refine ⟨v, hv, ?_⟩
    split at post
    · rename_i z
      have o := r.own (.sl i) v w ⟨hv, e⟩
      rw [o.cp z] at o
      exact post v H ⟨F, r.pushC (w := ⟨w.d, w.s, false⟩) o⟩
    · exact post v H ⟨F, r.pushS hv n⟩
  · exact post.elim
theorem sem_nv : SemE G W (tVar i) (fNv i) := fun p s σ H Q r post => by
  obtain ⟨F, r⟩ := r
  unfold fNv at post
  split at post
  · rename_i w e
    obtain ⟨v, hv⟩ := r.wf.slv i w e
    refine ⟨v, hv, ?_⟩
    split at post
    · rename_i z
      have o := r.own (.sl i) v w ⟨hv, e⟩
      rw [o.cp z] at o
      exact post v H ⟨F, r.pushC (w := ⟨w.d, w.s, false⟩) o⟩
    · exact post.elim
  · exact post.elim
/-- what goes wrong with values on the pile goes wrong without them -/
theorem PoX.pop {q : Pd} {e : Xn} {s' : Sta} (z : PoX G p σ W e s') : PoX G (p ++ q) σ W e s' := fun d H' r' => by
  obtain ⟨F, r', x⟩ := r'
  obtain ⟨F', r2, le⟩ := r'.popN
  refine z d H' ⟨F', r2, ?_⟩
  revert x
  cases e.fs with
  | none => exact fun x => x
  | some fs => exact fun ⟨dd, e1, e2, n⟩ => ⟨dd, e1, e2, fun c => n (le _ c)⟩
/-! ### operators -/
/-- what is made by an operator, a built-in: of operands that C knows in H -/
def Made (G : Fr) (C : Addr → Prop) (H : Hp) (Q : VK) (w : Vl) : Prop := ∀ v H' f, (∀ a o, H a = some o → a ∉ G.cs → H' a = some o) → (∀ P ∈ G.cs, TabG H' P) → (∀ a ∈ f, H a = none) → f.Nodup → Ow G.K (fun a => C a ∨ a ∈ f) H' w.s v w.d f → Q v H'
/-- an operand: what it shows -/
def Opd (G : Fr) (C : Addr → Prop) (H : Hp) (v : V) (w : Vl) : Prop := ∃ f, (∀ a ∈ f, C a) ∧ w.s.tpl = false ∧ Ow G.K C H w.s v w.d f
structure Cok (G : Fr) (C : Addr → Prop) (H : Hp) : Prop where
  new : ∀ a, H a = none → ¬ C a
  tab : ∀ P ∈ G.cs, C P ∧ TabG H P
def OpS (G : Fr) (r : R2) (g : Vl → Vl → Option Vl) : Prop := ∀ C H x y w1 w2 w Q, Cok G C H → Opd G C H x w1 → Opd G C H y w2 → g w1 w2 = some w → Made G C H Q w → r x y H Q
theorem RLw.cok {p : Pd} {F : Ix → List Addr} (r : RLw G p s σ H F) : Cok G (CF G F) H := ⟨fun _ h => r.new h, fun P hP => ⟨Or.inl (r.tab P hP).1, (r.tab P hP).2⟩⟩
theorem RLw.opd {p : Pd} {F : Ix → List Addr} (r : RLw G p s σ H F) {j : Nat} {h : Hd} {w : Vl} (e : p[j]? = some (v, h)) (l : lookH s h = some w) : Opd G (CF G F) H v w := by
  obtain ⟨x, _, o⟩ := r.lookO e l
  exact ⟨F x, fun a ha => Or.inr ⟨x, ha⟩, lookH_tpl l, o⟩
theorem Made.flat {C : Addr → Prop} (c : Cok G C H) (m : Made G C H Q (.f d)) (h : Rp G.K C H v d) : Q v H :=
  m v H [] (fun _ _ e _ => e) (fun P hP => (c.tab P hP).2) (fun a ha => by cases ha) List.nodup_nil ⟨rfl, h.less fun a c => c.elim id fun z => by cases z⟩
def look2 (s : Sta) (h1 h2 : Hd) (g : Vl → Vl → Option Vl) : Rs Hd := match lookH s h1, lookH s h2 with
  | some w1, some w2 => (match g w1 w2 with
    | some w => .ok (.val w) s
    | none => .no)
  | _, _ => .no
def fOp (g : Vl → Vl → Option Vl) (fa fb : FE) : FE := fun s => (fa s).bind fun h1 s1 => (fb s1).bind fun h2 s2 => look2 s2 h1 h2 g
theorem RLw.made {p q : Pd} {F : Ix → List Addr} {w : Vl} {k : VK} (r : RLw G (p ++ q) s σ H F) (post : PoE G p σ k W (.ok (.val w) s)) : Made G (CF G F) H k w :=
  fun v H' f a b c d o => post v H' (r.res a b c d o)
theorem two_at {p : Pd} {x y : V × Hd} : (p ++ [x] ++ [y])[p.length]? = some x ∧ (p ++ [x] ++ [y])[p.length + 1]? = some y := by
  refine ⟨getp_old getp_new, ?_⟩
  have e : p.length + 1 = (p ++ [x]).length := by simp
  rw [e]
  exact getp_new
theorem sem_op {r : R2} {g : Vl → Vl → Option Vl} (ho : OpS G r g) (ha : SemE G W ta fa) (hb : SemE G W tb fb) : SemE G W (tOp r ta tb) (fOp g fa fb) := fun p s σ H Q r0 post => by
  refine ha.bind (P := PoE G p σ Q W) (fun z => z) r0 post (fun _ _ z => z) fun h1 s1 v1 H1 post r1 => ?_
  refine hb.bind (P := PoE G p σ Q W) (fun z => z) r1 post (fun _ _ z => PoX.pop z) fun h2 s2 v2 H2 post r2 => ?_
  unfold look2 at post
  split at post
  · rename_i w1 w2 e1 e2
    split at post
    · rename_i w e
      obtain ⟨F, r2⟩ := r2
      have q1 := r2.opd two_at.1 e1
      have q2 := r2.opd two_at.2 e2
      have c := r2.cok
      rw [List.append_assoc] at r2
      exact ho (CF G F) H2 v1 v2 w1 w2 w Q c q1 q2 e (r2.made post)
    · exact post.elim
  · exact post.elim
end
end Z
/-! # operators by data -/
namespace Z
open PySem PySem.Spec PyProof.Rows L2 GxR
section
variable {K : PySem.W.Frag} {C : Addr → Prop} {H : Hp} {fp : List Addr} {v : V} {d : PyData} {s : Sh}
theorem OwL.dp {P : V → PyData → List Addr → Prop} (h : ∀ v d f, P v d f → Dp K H v d) : ∀ {vs : List V} {ds : List PyData} {f : List Addr}, OwL P vs ds f → DpAll K H vs ds
  | _, _, _, .nil => .nil
  | _, _, _, .cons p r => .cons (h _ _ _ p) (OwL.dp h r)
theorem Ow.dp : ∀ {s : Sh} {v : V} {d : PyData} {fp : List Addr}, s.fzOk = true → Ow K C H s v d fp → Dp K H v d
  | .fz, _, _, _, _, ⟨_, r⟩ => r.dp
  | .rd, _, _, _, ok, _ => by cases ok
  | .tn, _, _, _, _, ⟨_, a, vs, ds, o, e1, e2, n, h, _, r⟩ => by
    subst e1 e2
    exact .tup (Or.inl (Or.inr ⟨o, h⟩)) r.dp
  | .ls s, _, _, _, ok, ⟨a, vs, ds, f, e1, e2, e3, o, e4⟩ => by
    subst e1 e2
    exact .lst (SqL.of e3) (OwL.dp (fun v d f p => Ow.dp (s := s) ok p) o)
  | .mp _, _, _, _, ok, _ => by cases ok
  | .mt _, _, _, _, ok, _ => by cases ok
  | .st, _, _, _, ok, _ => by cases ok
  | .ob, _, _, _, ok, _ => by cases ok
end
/-! ### what an operand holds -/
section
variable {G : Fr} {C : Addr → Prop} {H : Hp} {v : V} {w : Vl} {d : PyData} {ds : List PyData}
theorem Opd.flat (o : Opd G C H v w) (e : w.d = d) (f : flatD d = true) : v = valD d := by
  obtain ⟨fp, _, np, o⟩ := o
  cases hs : w.s with
  | fz =>
    rw [hs, e] at o
    exact o.2.flat f
  | ls s =>
    rw [hs, e] at o
    obtain ⟨a, vs, ds, f', _, e2, _⟩ := o
    rw [e2] at f
    cases f
  | mp s =>
    rw [hs, e] at o
    obtain ⟨a, vs, ds, f', _, e2, _⟩ := o
    rw [e2] at f
    cases f
  | rd =>
    rw [hs] at o
    obtain ⟨_, a, vs, ds, e1, e2, _⟩ := o
    first
      | (rw [e1, e2] <;> rfl)
      | (rw [e] at e2; subst e2; cases f)
      | (rw [e] at e2; cases e2)
  | tn =>
    rw [hs] at o
    obtain ⟨_, a, vs, ds', ob, e1, e2, n, h, _, r⟩ := o
    first
      | (rw [e1, e2] <;> rfl)
      | (rw [e] at e2; subst e2; cases f)
      | (rw [e] at e2; cases e2; exact ⟨a, vs, e1, Or.inl ⟨n, Or.inr ⟨ob, h⟩⟩, r⟩)
  | mt s => rw [hs] at np; cases np
  | st => rw [hs] at o; exact o.elim
  | ob => rw [hs] at o; exact o.elim
theorem Opd.dp (o : Opd G C H v w) (ok : w.s.fzOk = true) : Dp G.K H v w.d := by
  obtain ⟨fp, _, np, o⟩ := o
  exact o.dp ok
/-- a list whose items are held for good: its place, its items -/
theorem Opd.lst (o : Opd G C H v w) (e : w.d = .list ds) (h : w.s = .fz ∨ w.s = .ls .fz) : ∃ a vs, v = .ref a ∧ H a = some (.lst vs) ∧ RpAll G.K C H vs ds := by
  obtain ⟨fp, _, np, o⟩ := o
  rcases h with h | h
  · rw [h, e] at o
    obtain ⟨_, o⟩ := o
    cases o with
    | lst s r => exact ⟨_, _, rfl, s.2, r⟩
  · rw [h, e] at o
    obtain ⟨a, vs, ds', f, e1, e2, e3, r, _⟩ := o
    cases e2
    exact ⟨a, vs, e1, e3, r.fz.2⟩
theorem Opd.tup (o : Opd G C H v w) (e : w.d = .tuple ds) : ∃ a vs, v = .ref a ∧ StT G.K C H a vs ∧ RpAll G.K C H vs ds := by
  obtain ⟨fp, _, np, o⟩ := o
  cases hs : w.s with
  | fz =>
    rw [hs, e] at o
    obtain ⟨_, o⟩ := o
    cases o with
    | tup s r => exact ⟨_, _, rfl, s, r⟩
  | ls s =>
    rw [hs, e] at o
    obtain ⟨a, vs, ds, f', _, e2, _⟩ := o
    cases e2
  | mp s =>
    rw [hs, e] at o
    obtain ⟨a, vs, ds, f', _, e2, _⟩ := o
    cases e2
  | rd =>
    rw [hs] at o
    obtain ⟨_, a, vs, ds, e1, e2, _⟩ := o
    first
      | (rw [e1, e2] <;> rfl)
      | (rw [e] at e2; subst e2; cases f)
      | (rw [e] at e2; cases e2)
  | tn =>
    rw [hs] at o
    obtain ⟨_, a, vs, ds', ob, e1, e2, n, h, _, r⟩ := o
    first
      | (rw [e1, e2] <;> rfl)
      | (rw [e] at e2; subst e2; cases f)
      | (rw [e] at e2; cases e2; exact ⟨a, vs, e1, Or.inl ⟨n, Or.inr ⟨ob, h⟩⟩, r⟩)
  | mt s => rw [hs] at np; cases np
  | st => rw [hs] at o; exact o.elim
  | ob => rw [hs] at o; exact o.elim
/-- items that are held for good -/
def fzItems (s : Sh) : Bool := decide (s = .fz) || decide (s = .ls .fz)
theorem fzItems_or {s : Sh} (h : fzItems s = true) : s = .fz ∨ s = .ls .fz := by
  unfold fzItems at h
  rcases Bool.or_eq_true_iff.mp h with h | h
  · exact Or.inl (of_decide_eq_true h)
  · exact Or.inr (of_decide_eq_true h)
/-- a new list of items for good -/
theorem Made.lst {Q : VK} {vs : List V} (c : Cok G C H) (m : Made G C H Q ⟨.list ds, .ls .fz, false⟩) (r : RpAll G.K C H vs ds) {p : Addr} (hp : H p = none) : Q (.ref p) (upd H p (.lst vs)) := by
  have up : ∀ a o, H a = some o → upd H p (.lst vs) a = some o := fun a o e => by
    rw [upd_ne (ne_of_none e hp)]
    exact e
  refine m (.ref p) _ [p] (fun a o e _ => up a o e) (fun P hP => ?_) (fun a ha => by rw [List.mem_singleton.mp ha]; exact hp) (by simp) ⟨p, vs, ds, [], rfl, rfl, upd_same, OwL.of_fz (r.mv ⟨fun a o e n => ⟨up a o e, fun z => z.elim n fun z => ?_⟩⟩), rfl⟩
  · obtain ⟨ps, e, t⟩ := (c.tab P hP).2
    exact ⟨ps, up _ _ e, t⟩
  · rw [List.mem_singleton.mp z, hp] at e
    cases e
theorem Made.tup {Q : VK} {vs : List V} (c : Cok G C H) (m : Made G C H Q (.f (.tuple ds))) (r : RpAll G.K C H vs ds) {p : Addr} (hp : H p = none) : Q (.ref p) (upd H p (.tup vs)) := by
  have up : ∀ a o, H a = some o → upd H p (.tup vs) a = some o := fun a o e => by
    rw [upd_ne (ne_of_none e hp)]
    exact e
  have nc : ∀ a, ¬ C a → ¬ (C a ∨ a ∈ ([] : List Addr)) := fun a n z => z.elim n fun z => by cases z
  refine m (.ref p) _ [] (fun a o e _ => up a o e) (fun P hP => ?_) (fun a ha => by cases ha) (by simp) ⟨rfl, .tup (StT.of (nc _ (c.new p hp)) upd_same) (r.mv ⟨fun a o e n => ⟨up a o e, nc a n⟩⟩)⟩
  obtain ⟨ps, e, t⟩ := (c.tab P hP).2
  exact ⟨ps, up _ _ e, t⟩
end
/-! ### + - * // % ** -/
def rAddF (K : PySem.W.Frag) : R2 := fun x y H Q => rAddI x y H Q ∨ rAddS x y H Q ∨ rCat x y H Q ∨ rCatA K x y H Q
theorem op_addF {X : Cx} : OpR X (binaryOp .Add) (rAddF X.K) := OpR.or op_add (OpR.or op_add_str (OpR.or op_cat op_catA))
def gAdd (a b : Vl) : Option Vl := match a.d, b.d with
  | .int i, .int j => some (.f (.int (i + j)))
  | .str i, .str j => if i.length + j.length ≤ sizeLine then some (.f (.str (i ++ j))) else none
  | .list ds, .list es => if fzItems a.s = true ∧ fzItems b.s = true ∧ ds.length + es.length ≤ sizeLine then some ⟨.list (ds ++ es), .ls .fz, false⟩ else none
  | .tuple ds, .tuple es => if ds.length + es.length ≤ sizeLine then some (.f (.tuple (ds ++ es))) else none
  | _, _ => none
section
variable {G : Fr}
theorem ops_add : OpS G (rAddF G.K) gAdd := fun C H x y w1 w2 w Q c o1 o2 e m => by
  unfold gAdd at e
  split at e
  · rename_i i j e1 e2
    cases e
    rw [o1.flat e1 rfl, o2.flat e2 rfl]
    exact Or.inl ⟨i, j, rfl, rfl, m.flat c (.int _)⟩
  · rename_i i j e1 e2
    split at e
    · rename_i hz
      cases e
      rw [o1.flat e1 rfl, o2.flat e2 rfl]
      exact Or.inr (Or.inl ⟨i, j, rfl, rfl, hz, m.flat c (.str _)⟩)
    · cases e
  · rename_i ds es e1 e2
    split at e
    · rename_i hz
      cases e
      obtain ⟨a, vs, rfl, ha, ra⟩ := o1.lst e1 (fzItems_or hz.1)
      obtain ⟨b, ws, rfl, hb, rb⟩ := o2.lst e2 (fzItems_or hz.2.1)
      exact Or.inr (Or.inr (Or.inl ⟨a, b, vs, ws, rfl, rfl, ha, hb, by rw [ra.len, rb.len]; exact hz.2.2, fun p hp => m.lst c (ra.app rb) hp⟩))
    · cases e
  · rename_i ds es e1 e2
    split at e
    · rename_i hz
      cases e
      obtain ⟨a, vs, rfl, ha, ra⟩ := o1.tup e1
      obtain ⟨b, ws, rfl, hb, rb⟩ := o2.tup e2
      refine Or.inr (Or.inr (Or.inr ⟨a, b, vs, ws, rfl, rfl, ha.sq, hb.sq, by rw [ra.len, rb.len]; exact hz, fun z => ?_, fun _ z => ?_, fun _ _ p hp => m.tup c (ra.app rb) hp⟩))
      · subst z
        cases ra
        exact m.flat c (.tup hb rb)
      · subst z
        cases rb
        rw [List.append_nil] at m
        exact m.flat c (.tup ha ra)
    · cases e
  · cases e
def gMinus (a b : Vl) : Option Vl := match a.d, b.d with
  | .int i, .int j => some (.f (.int (i - j)))
  | _, _ => none
theorem ops_sub : OpS G rSubI gMinus := fun C H x y w1 w2 w Q c o1 o2 e m => by
  unfold gMinus at e
  split at e
  · rename_i i j e1 e2
    cases e
    rw [o1.flat e1 rfl, o2.flat e2 rfl]
    exact ⟨i, j, rfl, rfl, m.flat c (.int _)⟩
  · cases e
/-- an int's operator under a bound -/
def gInt (B : Int → Int → Bool) (f : Int → Int → Int) (a b : Vl) : Option Vl := match a.d, b.d with
  | .int i, .int j => if B i j = true then some (.f (.int (f i j))) else none
  | _, _ => none
theorem ops_int {R : Int → Int → Prop} {B : Int → Int → Bool} {f : Int → Int → Int} (hB : ∀ i j, B i j = true → R i j) : OpS G (rI R fun i j => .int (f i j)) (gInt B f) := fun C H x y w1 w2 w Q c o1 o2 e m => by
  unfold gInt at e
  split at e
  · rename_i i j e1 e2
    split at e
    · rename_i hb
      cases e
      rw [o1.flat e1 rfl, o2.flat e2 rfl]
      exact ⟨i, j, rfl, rfl, hB i j hb, m.flat c (.int _)⟩
    · cases e
  · cases e
def bMod (_ j : Int) : Bool := decide (0 < j)
def bDiv (_ j : Int) : Bool := decide (0 < j) && decide (j < 1073741824)
def bPow (i j : Int) : Bool := decide (0 ≤ j) && decide (j ≤ 1000000) && decide (i.natAbs < 2 ^ 64)
theorem ops_mod : OpS G rModI (gInt bMod fun i j => i % j) := ops_int fun _ _ h => of_decide_eq_true h
theorem ops_div : OpS G rDivI (gInt bDiv fun i j => i / j) := ops_int fun _ _ h => by
  unfold bDiv at h
  simp only [Bool.and_eq_true, decide_eq_true_eq] at h
  exact h
theorem ops_pow : OpS G rPowI (gInt bPow fun i j => i ^ j.toNat) := ops_int fun _ _ h => by
  unfold bPow at h
  simp only [Bool.and_eq_true, decide_eq_true_eq] at h
  exact ⟨h.1.1, h.1.2, h.2⟩
def rMulF (K : PySem.W.Frag) : R2 := fun x y H Q => rMulI x y H Q ∨ rRep x y H Q ∨ rRepT K x y H Q
theorem op_mulF {X : Cx} : OpR X (binaryOp .Mult) (rMulF X.K) := OpR.or op_mul (OpR.or op_rep op_repT)
def bMul (i j : Int) : Bool := (decide (-(2 ^ 64) < i) && decide (i < 2 ^ 64)) || (decide (-(2 ^ 64) < j) && decide (j < 2 ^ 64))
def gMul (a b : Vl) : Option Vl := match a.d, b.d with
  | .int i, .int j => if bMul i j = true then some (.f (.int (i * j))) else none
  | .list ds, .int k => if fzItems a.s = true ∧ -(2 ^ 63) ≤ k ∧ k < 2 ^ 63 ∧ ds.length * k.toNat ≤ sizeLine then some ⟨.list (List.replicate k.toNat ds).flatten, .ls .fz, false⟩ else none
  | .tuple ds, .int k => if ds ≠ [] ∧ 2 ≤ k ∧ k ≤ 1000 ∧ ds.length ≤ 1000 then some (.f (.tuple (List.replicate k.toNat ds).flatten)) else none
  | _, _ => none
theorem RpAll.rep {K : PySem.W.Frag} {C : Addr → Prop} {H : Hp} {vs : List V} {ds : List PyData} (r : RpAll K C H vs ds) : ∀ n, RpAll K C H (List.replicate n vs).flatten (List.replicate n ds).flatten
  | 0 => .nil
  | n + 1 => by
    simp only [List.replicate_succ, List.flatten_cons]
    exact r.app (RpAll.rep r n)
theorem ops_mul : OpS G (rMulF G.K) gMul := fun C H x y w1 w2 w Q c o1 o2 e m => by
  unfold gMul at e
  split at e
  · rename_i i j e1 e2
    split at e
    · rename_i hb
      cases e
      rw [o1.flat e1 rfl, o2.flat e2 rfl]
      unfold bMul at hb
      simp only [Bool.and_eq_true, Bool.or_eq_true, decide_eq_true_eq] at hb
      exact Or.inl ⟨i, j, rfl, rfl, hb, m.flat c (.int _)⟩
    · cases e
  · rename_i ds k e1 e2
    split at e
    · rename_i hz
      cases e
      obtain ⟨a, vs, rfl, ha, ra⟩ := o1.lst e1 (fzItems_or hz.1)
      rw [o2.flat e2 rfl]
      exact Or.inr (Or.inl ⟨a, k, vs, rfl, rfl, ha, hz.2.1, hz.2.2.1, by rw [ra.len]; exact hz.2.2.2, fun p hp => m.lst c (ra.rep _) hp⟩)
    · cases e
  · rename_i ds k e1 e2
    split at e
    · rename_i hz
      cases e
      obtain ⟨a, vs, rfl, ha, ra⟩ := o1.tup e1
      rw [o2.flat e2 rfl]
      refine Or.inr (Or.inr ⟨a, k, vs, rfl, rfl, ha.sq, fun z => ?_, hz.2.1, hz.2.2.1, by rw [ra.len]; exact hz.2.2.2, fun p hp => m.tup c (ra.rep _) hp⟩)
      subst z
      cases ra
      exact hz.1 rfl
    · cases e
  · cases e
/-! ### comparisons -/
/-- == of data -/
def eqData (d e : PyData) : Option Bool := match d, e with
  | .int i, .int j => some (decide (i = j))
  | .str x, .str y => some (decide (x = y))
  | .bool b, .bool c => some (decide (b = c))
  | .none, .none => some true
  | .none, .int _ | .none, .bool _ | .none, .str _ | .int _, .none | .bool _, .none | .str _, .none | .int _, .str _ | .str _, .int _ | .bool _, .str _ | .str _, .bool _ => some false
  | d, e => if SeqAt.shaped d = true ∧ SeqAt.shaped e = true then some (PyData.eqv d e) else none
def gEq (a b : Vl) : Option Vl := if a.s.fzOk = true ∧ b.s.fzOk = true then (eqData a.d b.d).map fun b => .f (.bool b) else none
def gNe (a b : Vl) : Option Vl := if a.s.fzOk = true ∧ b.s.fzOk = true then (eqData a.d b.d).map fun b => .f (.bool (!b)) else none
theorem eq_cases {C : Addr → Prop} {H : Hp} {x y : V} {w1 w2 : Vl} {b : Bool} (o1 : Opd G C H x w1) (o2 : Opd G C H y w2) (k1 : w1.s.fzOk = true) (k2 : w2.s.fzOk = true) (e : eqData w1.d w2.d = some b) :
    (scal x y = true ∧ decide (x = y) = b) ∨ (∃ d e, Dp G.K H x d ∧ Dp G.K H y e ∧ SeqAt.shaped d = true ∧ SeqAt.shaped e = true ∧ PyData.eqv d e = b) := by
  have h1 := o1.dp k1
  have h2 := o2.dp k2
  unfold eqData at e
  split at e
  · rename_i i j e1 e2
    rw [o1.flat e1 rfl, o2.flat e2 rfl]
    exact Or.inl ⟨rfl, by cases e; simp [valD]⟩
  · rename_i i j e1 e2
    rw [o1.flat e1 rfl, o2.flat e2 rfl]
    exact Or.inl ⟨rfl, by cases e; simp [valD]⟩
  · rename_i i j e1 e2
    rw [o1.flat e1 rfl, o2.flat e2 rfl]
    exact Or.inl ⟨rfl, by cases e; simp [valD]⟩
  · rename_i e1 e2
    rw [o1.flat e1 rfl, o2.flat e2 rfl]
    exact Or.inl ⟨rfl, by cases e; simp [valD]⟩
  all_goals first
    | (rename_i i e1 e2
       rw [o1.flat e1 rfl, o2.flat e2 rfl]
       exact Or.inl ⟨rfl, by cases e; simp [valD]⟩)
    | (rename_i i j e1 e2
       rw [o1.flat e1 rfl, o2.flat e2 rfl]
       exact Or.inl ⟨rfl, by cases e; simp [valD]⟩)
    | (split at e
       · rename_i hz
         cases e
         exact Or.inr ⟨_, _, h1, h2, hz.1, hz.2, rfl⟩
       · cases e)
theorem ops_eq : OpS G (rEqG G.K) gEq := fun C H x y w1 w2 w Q c o1 o2 e m => by
  unfold gEq at e
  split at e
  · rename_i hk
    cases q : eqData w1.d w2.d with
    | none =>
      rw [q] at e
      cases e
    | some b =>
      rw [q] at e
      cases e
      rcases eq_cases o1 o2 hk.1 hk.2 q with ⟨h1, h2⟩ | ⟨d, e, h1, h2, h3, h4, h5⟩
      · exact Or.inl ⟨h1, by rw [h2]; exact m.flat c (.bl _)⟩
      · exact Or.inr ⟨d, e, h1, h2, h3, h4, by rw [h5]; exact m.flat c (.bl _)⟩
  · cases e
theorem ops_ne : OpS G (rNeG G.K) gNe := fun C H x y w1 w2 w Q c o1 o2 e m => by
  unfold gNe at e
  split at e
  · rename_i hk
    cases q : eqData w1.d w2.d with
    | none =>
      rw [q] at e
      cases e
    | some b =>
      rw [q] at e
      cases e
      rcases eq_cases o1 o2 hk.1 hk.2 q with ⟨h1, h2⟩ | ⟨d, e, h1, h2, h3, h4, h5⟩
      · exact Or.inl ⟨h1, by rw [h2]; exact m.flat c (.bl _)⟩
      · exact Or.inr ⟨d, e, h1, h2, h3, h4, by rw [h5]; exact m.flat c (.bl _)⟩
  · cases e
/-- flat items are their values -/
theorem RpAll.vals {K : PySem.W.Frag} {C : Addr → Prop} {H : Hp} : ∀ {vs : List V} {ds : List PyData}, RpAll K C H vs ds → ds.all flatD = true → vs = ds.map valD
  | _, [], .nil, _ => rfl
  | _, _ :: _, .cons h t, f => by
    rw [List.all_cons, Bool.and_eq_true] at f
    rw [h.flat f.1, RpAll.vals t f.2]
    rfl
theorem flatV_of {d : PyData} (h : flatD d = true) : flatV (valD d) = true := by
  cases d <;> first | rfl | cases h
theorem flatVs_of {ds : List PyData} (h : ds.all flatD = true) : (ds.map valD).all flatV = true := by
  rw [List.all_eq_true] at h ⊢
  intro x hx
  obtain ⟨d, hd, rfl⟩ := List.mem_map.mp hx
  exact flatV_of (h d hd)
def ltData (d e : PyData) : Option Bool := match d, e with
  | .int i, .int j => some (decide (i < j))
  | .str x, .str y => some (decide (x.cps.toList < y.cps.toList))
  | .tuple ds, .tuple es => if ds.all flatD = true ∧ es.all flatD = true ∧ lexOk (ds.map valD) (es.map valD) = true then some (lexV (ds.map valD) (es.map valD)) else none
  | _, _ => none
def gLt (a b : Vl) : Option Vl := (ltData a.d b.d).map fun b => .f (.bool b)
theorem ops_lt : OpS G (rLtG G.K) gLt := fun C H x y w1 w2 w Q c o1 o2 e m => by
  unfold gLt at e
  cases q : ltData w1.d w2.d with
  | none =>
    rw [q] at e
    cases e
  | some b =>
    rw [q] at e
    cases e
    unfold ltData at q
    split at q
    · rename_i i j e1 e2
      cases q
      rw [o1.flat e1 rfl, o2.flat e2 rfl]
      exact Or.inl ⟨i, j, rfl, rfl, m.flat c (.bl _)⟩
    · rename_i i j e1 e2
      cases q
      rw [o1.flat e1 rfl, o2.flat e2 rfl]
      exact Or.inr (Or.inl ⟨i, j, rfl, rfl, m.flat c (.bl _)⟩)
    · rename_i ds es e1 e2
      split at q
      · rename_i hz
        cases q
        obtain ⟨a, vs, rfl, ha, ra⟩ := o1.tup e1
        obtain ⟨b, ws, rfl, hb, rb⟩ := o2.tup e2
        have k1 := ra.vals hz.1
        have k2 := rb.vals hz.2.1
        subst k1 k2
        exact Or.inr (Or.inr ⟨a, b, _, _, rfl, rfl, ha.sq, hb.sq, flatVs_of hz.1, flatVs_of hz.2.1, hz.2.2, m.flat c (.bl _)⟩)
      · cases q
    · cases q
/-- <= of ints, of texts; >, >= of ints -/
def gLe (a b : Vl) : Option Vl := match a.d, b.d with
  | .int i, .int j => some (.f (.bool (decide (i ≤ j))))
  | .str x, .str y => some (.f (.bool (!decide (y.cps.toList < x.cps.toList))))
  | _, _ => none
theorem ops_le : OpS G rLeG gLe := fun C H x y w1 w2 w Q c o1 o2 e m => by
  unfold gLe at e
  split at e
  · rename_i i j e1 e2
    cases e
    rw [o1.flat e1 rfl, o2.flat e2 rfl]
    exact Or.inl ⟨i, j, rfl, rfl, m.flat c (.bl _)⟩
  · rename_i i j e1 e2
    cases e
    rw [o1.flat e1 rfl, o2.flat e2 rfl]
    exact Or.inr ⟨i, j, rfl, rfl, m.flat c (.bl _)⟩
  · cases e
def gCmp (f : Int → Int → Bool) (a b : Vl) : Option Vl := match a.d, b.d with
  | .int i, .int j => some (.f (.bool (f i j)))
  | _, _ => none
theorem ops_cmp {f : Int → Int → Bool} : OpS G (rI0 fun i j => .bl (f i j)) (gCmp f) := fun C H x y w1 w2 w Q c o1 o2 e m => by
  unfold gCmp at e
  split at e
  · rename_i i j e1 e2
    cases e
    rw [o1.flat e1 rfl, o2.flat e2 rfl]
    exact ⟨i, j, rfl, rfl, m.flat c (.bl _)⟩
  · cases e
abbrev gGt := gCmp fun i j => decide (j < i)
abbrev gGe := gCmp fun i j => decide (j ≤ i)
theorem ops_gt : OpS G rGtI gGt := ops_cmp
theorem ops_ge : OpS G rGeI gGe := ops_cmp
def isNone : PyData → Bool
  | .none => true
  | _ => false
def isData (d e : PyData) : Option Bool := match e with
  | .none => some (isNone d)
  | .bool c => match d with
    | .bool b => some (decide (b = c))
    | _ => none
  | _ => none
theorem Opd.non {C : Addr → Prop} {H : Hp} {v : V} {w : Vl} (o : Opd G C H v w) : decide (v = .non) = isNone w.d := by
  obtain ⟨fp, _, np, o⟩ := o
  cases hs : w.s with
  | fz =>
    rw [hs] at o
    obtain ⟨_, o⟩ := o
    generalize w.d = d at o
    cases o <;> rfl
  | ls s =>
    rw [hs] at o
    obtain ⟨a, vs, ds, f', e1, e2, _⟩ := o
    rw [e1, e2]
    rfl
  | mp s =>
    rw [hs] at o
    obtain ⟨a, vs, ds, f', e1, e2, _⟩ := o
    rw [e1, e2]
    rfl
  | rd =>
    rw [hs] at o
    obtain ⟨_, a, vs, ds, e1, e2, _⟩ := o
    first
      | (rw [e1, e2] <;> rfl)
      | (rw [e] at e2; subst e2; cases f)
      | (rw [e] at e2; cases e2)
  | tn =>
    rw [hs] at o
    obtain ⟨_, a, vs, ds', ob, e1, e2, n, h, _, r⟩ := o
    first
      | (rw [e1, e2] <;> rfl)
      | (rw [e] at e2; subst e2; cases f)
      | (rw [e] at e2; cases e2; exact ⟨a, vs, e1, Or.inl ⟨n, Or.inr ⟨ob, h⟩⟩, r⟩)
  | mt s => rw [hs] at np; cases np
  | st => rw [hs] at o; exact o.elim
  | ob => rw [hs] at o; exact o.elim
def gIs (a b : Vl) : Option Vl := (isData a.d b.d).map fun b => .f (.bool b)
def gIsNot (a b : Vl) : Option Vl := (isData a.d b.d).map fun b => .f (.bool (!b))
theorem is_cases {C : Addr → Prop} {H : Hp} {x y : V} {w1 w2 : Vl} {b : Bool} (o1 : Opd G C H x w1) (o2 : Opd G C H y w2) (e : isData w1.d w2.d = some b) : (y = .non ∧ decide (x = .non) = b) ∨ (∃ i j, x = .bl i ∧ y = .bl j ∧ decide (i = j) = b) := by
  unfold isData at e
  split at e
  · rename_i e2
    cases e
    exact Or.inl ⟨o2.flat e2 rfl, o1.non⟩
  · rename_i c e2
    split at e
    · rename_i b' e1
      cases e
      exact Or.inr ⟨_, _, o1.flat e1 rfl, o2.flat e2 rfl, rfl⟩
    · cases e
  · cases e
theorem ops_is : OpS G rIsG gIs := fun C H x y w1 w2 w Q c o1 o2 e m => by
  unfold gIs at e
  cases q : isData w1.d w2.d with
  | none =>
    rw [q] at e
    cases e
  | some b =>
    rw [q] at e
    cases e
    rcases is_cases o1 o2 q with ⟨h1, h2⟩ | ⟨i, j, h1, h2, h3⟩
    · exact Or.inl ⟨h1, by rw [h2]; exact m.flat c (.bl _)⟩
    · exact Or.inr ⟨i, j, h1, h2, by rw [h3]; exact m.flat c (.bl _)⟩
theorem ops_isnot : OpS G rIsNotG gIsNot := fun C H x y w1 w2 w Q c o1 o2 e m => by
  unfold gIsNot at e
  cases q : isData w1.d w2.d with
  | none =>
    rw [q] at e
    cases e
  | some b =>
    rw [q] at e
    cases e
    rcases is_cases o1 o2 q with ⟨h1, h2⟩ | ⟨i, j, h1, h2, h3⟩
    · exact Or.inl ⟨h1, by rw [h2]; exact m.flat c (.bl _)⟩
    · exact Or.inr ⟨i, j, h1, h2, by rw [h3]; exact m.flat c (.bl _)⟩
end
end Z
/-! # truth, and, or, not, conditional expressions; arguments; displays -/
namespace Z
open PySem PySem.Spec PyProof.Rows L2 GxR
section
variable {G : Fr} {W : WX} {p : Pd} {s s' : Sta} {σ : L2.St} {H H' : Hp} {F : Ix → List Addr} {v : V} {w : Vl} {d : PyData} {h : Hd} {j : Nat} {Q : VK}
theorem RLw.res1 {x : V × Hd} (r : RLw G (p ++ [x]) s σ H F) (q : Rp G.K (CF G F) H v d) : RL G (p ++ [(v, .val (.f d))]) s σ H := r.resF (q := [x]) q
/-- behind an operator of a truth value -/
theorem made_bool {q : Pd} {b : Bool} {k : VK} (r : RLw G (p ++ q) s σ H F) (go : ∀ H', RL G (p ++ q) s σ H' → k (.bl b) H') : Made G (CF G F) H k (.f (.bool b)) := fun v H' f g t _ _ o => by
  obtain ⟨_, o⟩ := o
  rw [o.eq_bool]
  exact go H' ⟨F, r.grow g t⟩
end
section
variable {G : Fr} {W : WX} {p : Pd} {s s' : Sta} {σ : L2.St} {H H' : Hp} {F : Ix → List Addr} {v : V} {w : Vl} {d : PyData} {h : Hd} {j : Nat} {Q : VK} {QB : Bool → Hp → Prop} {te ta tb tc : TE} {fe fa fb fc : FE} {t u : TT} {ft fu : FT}
/-! ### truth -/
def boolOf (s : Sta) (h : Hd) : Option Bool := match lookH s h with
  | some ⟨.bool b, .fz, _⟩ => some b
  | _ => none
theorem RLw.bool (r : RLw G p s σ H F) (e : p[j]? = some (v, h)) {b : Bool} (l : boolOf s h = some b) : v = .bl b := by
  unfold boolOf at l
  split at l
  · rename_i b' l' q
    cases l
    obtain ⟨x, _, o⟩ := r.lookO e q
    exact o.2.eq_bool
  · cases l
/-- by a truth value -/
def onB {β : Type} (s : Sta) (h : Hd) (k : Bool → Rs β) : Rs β := match boolOf s h with
  | some b => k b
  | none => .no
def fAnd (fa fb : FE) : FE := fun s => (fa s).bind fun h s1 => onB s1 h fun b => if b = true then fb s1 else .ok (.val (.f (.bool false))) s1
def fOr (fa fb : FE) : FE := fun s => (fa s).bind fun h s1 => onB s1 h fun b => if b = true then .ok (.val (.f (.bool true))) s1 else fb s1
def fNot (fa : FE) : FE := fun s => (fa s).bind fun h s1 => onB s1 h fun b => .ok (.val (.f (.bool (!b)))) s1
/-- a truth value on the pile, and what goes on without it -/
theorem RL.onB {β : Type} {P : Rs β → Prop} (no : ¬ P .no) {k : Bool → Rs β} (post : P (onB s h k)) (r : RL G (p ++ [(v, h)]) s σ H) : ∃ b, v = .bl b ∧ P (k b) ∧ RL G p s σ H := by
  unfold Z.onB at post
  split at post
  · rename_i b e
    obtain ⟨F, r⟩ := r
    exact ⟨b, r.bool getp_new e, post, r.rl.popN⟩
  · exact (no post).elim
theorem PoE.no : ¬ PoE G p σ Q W .no := fun z => z
theorem PoT.no : ¬ PoT G p σ QB W .no := fun z => z
theorem RL.pushF (r : RL G p s σ H) (h : ∀ C, Rp G.K C H v d) : RL G (p ++ [(v, .val (.f d))]) s σ H := by
  obtain ⟨F, r⟩ := r
  exact ⟨F, r.push (h _)⟩
theorem sem_and (ha : SemE G W ta fa) (hb : SemE G W tb fb) : SemE G W (tAndV ta tb) (fAnd fa fb) := fun p s σ H Q r0 post => by
  refine ha.bind (P := PoE G p σ Q W) (fun z => z) r0 post (fun _ _ z => z) fun h1 s1 v1 H1 post r1 => ?_
  obtain ⟨b, rfl, post, r2⟩ := r1.onB (P := PoE G p σ Q W) PoE.no post
  refine ⟨b, rfl, ?_⟩
  cases b with
  | true => exact hb p s1 σ H1 Q r2 post
  | false => exact post _ _ (r2.pushF fun _ => .bl false)
theorem sem_or (ha : SemE G W ta fa) (hb : SemE G W tb fb) : SemE G W (tOrV ta tb) (fOr fa fb) := fun p s σ H Q r0 post => by
  refine ha.bind (P := PoE G p σ Q W) (fun z => z) r0 post (fun _ _ z => z) fun h1 s1 v1 H1 post r1 => ?_
  obtain ⟨b, rfl, post, r2⟩ := r1.onB (P := PoE G p σ Q W) PoE.no post
  refine ⟨b, rfl, ?_⟩
  cases b with
  | false => exact hb p s1 σ H1 Q r2 post
  | true => exact post _ _ (r2.pushF fun _ => .bl true)
theorem sem_not (ha : SemE G W ta fa) : SemE G W (tNotV ta) (fNot fa) := fun p s σ H Q r0 post => by
  refine ha.bind (P := PoE G p σ Q W) (fun z => z) r0 post (fun _ _ z => z) fun h1 s1 v1 H1 post r1 => ?_
  obtain ⟨b, rfl, post, r2⟩ := r1.onB (P := PoE G p σ Q W) PoE.no post
  exact ⟨b, rfl, post _ _ (r2.pushF fun _ => .bl _)⟩
/-! ### tests -/
def fTv (fa : FE) : FT := fun s => (fa s).bind fun h s1 => onB s1 h fun b => .ok b s1
theorem sem_tv (ha : SemE G W ta fa) : SemT G W (tB ta) (fTv fa) := fun p s σ H Q r0 post => by
  refine ha.bind (P := PoT G p σ Q W) (fun z => z) r0 post (fun _ _ z => z) fun h1 s1 v1 H1 post r1 => ?_
  obtain ⟨b, rfl, post, r2⟩ := r1.onB (P := PoT G p σ Q W) PoT.no post
  exact ⟨b, rfl, post H1 r2⟩
/-- truth of any value -/
def truD (w : Vl) : Option Bool := match w.d with
  | .none => some false
  | .bool b => some b
  | .int i => some (i != 0)
  | .str x => if x.length ≤ sizeLine then some ((x.length : Int) != 0) else none
  | .list ds => some (!ds.isEmpty)
  | .tuple ds => some (!ds.isEmpty)
  | .dict ds => some (!ds.isEmpty)
theorem Opd.tru {C : Addr → Prop} (o : Opd G C H v w) {b : Bool} (e : truD w = some b) : TruV G.K v H b := by
  have ll : ∀ {P : V → PyData → List Addr → Prop} {vs : List V} {ds : List PyData} {f : List Addr}, OwL P vs ds f → (!ds.isEmpty) = !vs.isEmpty := fun q => by
    cases q <;> rfl
  obtain ⟨fp, _, np, o⟩ := o
  unfold truD at e
  cases hs : w.s with
  | fz =>
    rw [hs] at o
    obtain ⟨_, o⟩ := o
    generalize w.d = d at o e
    cases o with
    | non => cases e; rfl
    | bl b => cases e; rfl
    | int i => cases e; rfl
    | str x =>
      dsimp only at e
      split at e
      · rename_i hz
        cases e
        exact ⟨hz, rfl⟩
      · cases e
    | lst st r =>
      cases e
      refine Or.inl ⟨_, st.sq, ?_⟩
      cases r <;> rfl
    | tup st r =>
      cases e
      refine Or.inr (Or.inl ⟨_, st.sq, ?_⟩)
      cases r <;> rfl
  | rd =>
    rw [hs] at o
    obtain ⟨_, a, vs, ds, e1, e2, st, q⟩ := o
    rw [e2] at e
    cases e
    subst e1
    refine Or.inl ⟨vs, st.sq, ?_⟩
    cases q <;> rfl
  | tn =>
    rw [hs] at o
    obtain ⟨_, a, vs, ds, ob, e1, e2, n, h, _, q⟩ := o
    rw [e2] at e
    cases e
    subst e1
    refine Or.inr (Or.inl ⟨vs, Or.inl (Or.inr ⟨ob, h⟩), ?_⟩)
    cases q <;> rfl
  | ls s =>
    rw [hs] at o
    obtain ⟨a, vs, ds, f', e1, e2, e3, q, _⟩ := o
    rw [e2] at e
    cases e
    subst e1
    exact Or.inl ⟨vs, SqL.of e3, ll q⟩
  | mp s =>
    rw [hs] at o
    obtain ⟨a, vs, ds, f', e1, e2, e3, q, _⟩ := o
    rw [e2] at e
    cases e
    subst e1
    refine Or.inr (Or.inr ⟨vs, e3, ?_⟩)
    cases vs with
    | nil => rfl
    | cons x xs =>
      cases q with
      | cons _ _ => rfl
  | mt s => rw [hs] at np; cases np
  | st => rw [hs] at o; exact o.elim
  | ob => rw [hs] at o; exact o.elim
def truOf (s : Sta) (h : Hd) : Option Bool := (lookH s h).bind truD
def onT {β : Type} (s : Sta) (h : Hd) (k : Bool → Rs β) : Rs β := match truOf s h with
  | some b => k b
  | none => .no
theorem RL.onT {β : Type} {P : Rs β → Prop} (no : ¬ P .no) {k : Bool → Rs β} (post : P (onT s h k)) (r : RL G (p ++ [(v, h)]) s σ H) : ∃ b, TruV G.K v H b ∧ P (k b) ∧ RL G p s σ H := by
  unfold Z.onT at post
  split at post
  · rename_i b e
    unfold truOf at e
    cases l : lookH s h with
    | none =>
      rw [l] at e
      cases e
    | some w =>
      rw [l] at e
      obtain ⟨F, r⟩ := r
      exact ⟨b, (r.opd getp_new l).tru e, post, r.rl.popN⟩
  · exact (no post).elim
def fTt (fa : FE) : FT := fun s => (fa s).bind fun h s1 => onT s1 h fun b => .ok b s1
theorem sem_tt (ha : SemE G W ta fa) : SemT G W (fun σ H Q => ta σ H fun x H' => ∃ k, TruV G.K x H' k ∧ Q k H') (fTt fa) := fun p s σ H Q r0 post => by
  refine ha.bind (P := PoT G p σ Q W) (fun z => z) r0 post (fun _ _ z => z) fun h1 s1 v1 H1 post r1 => ?_
  obtain ⟨b, tr, post, r2⟩ := r1.onT (P := PoT G p σ Q W) PoT.no post
  exact ⟨b, tr, post H1 r2⟩
theorem SemT.bind {β : Type} (h : SemT G W t ft) {k : Bool → Sta → Rs β} {P : Rs β → Prop} (no : ¬ P .no) (r : RL G p s σ H) (post : P ((ft s).bind k)) (exc : ∀ e s', P (.ex e s') → PoX G p σ W e s') (go : ∀ b s' H', P (k b s') → RL G p s' σ H' → QB b H') : t σ H QB := by
  refine h p s σ H QB r ?_
  cases e : ft s with
  | no =>
    rw [e] at post
    exact no post
  | ok b s' =>
    rw [e] at post
    exact fun H' r' => go b s' H' post r'
  | ex x s' =>
    rw [e] at post
    exact exc x s' post
def fTand (ft fu : FT) : FT := fun s => (ft s).bind fun b s1 => if b = true then fu s1 else .ok false s1
def fTor (ft fu : FT) : FT := fun s => (ft s).bind fun b s1 => if b = true then .ok true s1 else fu s1
def fTnot (ft : FT) : FT := fun s => (ft s).bind fun b s1 => .ok (!b) s1
theorem sem_tand (ha : SemT G W t ft) (hb : SemT G W u fu) : SemT G W (tAnd t u) (fTand ft fu) := fun p s σ H Q r0 post => by
  refine ha.bind (P := PoT G p σ Q W) (fun z => z) r0 post (fun _ _ z => z) fun b s1 H1 post r1 => ?_
  cases b with
  | true => exact hb p s1 σ H1 Q r1 post
  | false => exact post H1 r1
theorem sem_tor (ha : SemT G W t ft) (hb : SemT G W u fu) : SemT G W (tOr t u) (fTor ft fu) := fun p s σ H Q r0 post => by
  refine ha.bind (P := PoT G p σ Q W) (fun z => z) r0 post (fun _ _ z => z) fun b s1 H1 post r1 => ?_
  cases b with
  | false => exact hb p s1 σ H1 Q r1 post
  | true => exact post H1 r1
theorem sem_tnot (ha : SemT G W t ft) : SemT G W (tNot t) (fTnot ft) := fun p s σ H Q r0 post => by
  refine ha.bind (P := PoT G p σ Q W) (fun z => z) r0 post (fun _ _ z => z) fun b s1 H1 post r1 => ?_
  exact post H1 r1
def fIf (ft : FT) (fa fb : FE) : FE := fun s => (ft s).bind fun b s1 => if b = true then fa s1 else fb s1
theorem sem_ifx (hc : SemT G W t ft) (ha : SemE G W ta fa) (hb : SemE G W tb fb) : SemE G W (tIf t ta tb) (fIf ft fa fb) := fun p s σ H Q r0 post => by
  refine hc.bind (P := PoE G p σ Q W) (fun z => z) r0 post (fun _ _ z => z) fun b s1 H1 post r1 => ?_
  cases b with
  | true => exact ha p s1 σ H1 Q r1 post
  | false => exact hb p s1 σ H1 Q r1 post
/-! ### a < b < c -/
def fChain (g g' : Vl → Vl → Option Vl) (fa fb fc : FE) : FE := fun s => (fa s).bind fun h1 s1 => (fb s1).bind fun h2 s2 => (look2 s2 h1 h2 g).bind fun h s3 => onB s3 h fun b =>
  if b = true then (fc s3).bind fun h3 s4 => look2 s4 h2 h3 g' else .ok (.val (.f (.bool false))) s3
theorem two_at' {p : Pd} {x y z : V × Hd} : (p ++ [x] ++ [y] ++ [z])[p.length + 1]? = some y ∧ (p ++ [x] ++ [y] ++ [z])[p.length + 2]? = some z := by
  refine ⟨getp_old two_at.2, ?_⟩
  have e : p.length + 2 = (p ++ [x] ++ [y]).length := by simp
  rw [e]
  exact getp_new
theorem sem_chain {r r' : R2} {g g' : Vl → Vl → Option Vl} (ho : OpS G r g) (ho' : OpS G r' g') (ha : SemE G W ta fa) (hb : SemE G W tb fb) (hc : SemE G W tc fc) : SemE G W (tChain r r' ta tb tc) (fChain g g' fa fb fc) := fun p s σ H Q r0 post => by
  refine ha.bind (P := PoE G p σ Q W) (fun z => z) r0 post (fun _ _ z => z) fun h1 s1 v1 H1 post r1 => ?_
  refine hb.bind (P := PoE G p σ Q W) (fun z => z) r1 post (fun _ _ z => PoX.pop z) fun h2 s2 v2 H2 post r2 => ?_
  obtain ⟨F, r2⟩ := r2
  cases q : look2 s2 h1 h2 g with
  | no =>
    rw [q] at post
    exact post.elim
  | ex e s' =>
    unfold look2 at q
    split at q
    · split at q <;> cases q
    · cases q
  | ok h s3 =>
    rw [q] at post
    unfold look2 at q
    split at q
    · rename_i w1 w2 e1 e2
      split at q
      · rename_i w e
        injection q with q1 q2
        subst q1 q2
        replace post : PoE G p σ Q W (onB s2 (Hd.val w) fun b => if b = true then (fc s2).bind fun h3 s4 => look2 s4 h2 h3 g' else .ok (.val (.f (.bool false))) s2) := post
        unfold onB at post
        split at post
        · rename_i b eb
          unfold boolOf at eb
          split at eb
          · rename_i b' l' ew
            cases eb
            cases (lookH_val ew).1
            have c := r2.cok
            have q1 := r2.opd two_at.1 e1
            have q2 := r2.opd two_at.2 e2
            rw [List.append_assoc] at r2
            refine ho (CF G F) H2 v1 v2 w1 w2 _ _ c q1 q2 e (made_bool (b := b) r2 fun H3 r3 => ⟨b, rfl, ?_⟩)
            cases b with
            | false => exact post _ _ (r3.popN.pushF fun _ => .bl false)
            | true =>
              rw [← List.append_assoc] at r3
              refine hc.bind (P := PoE G p σ Q W) (fun z => z) r3 post (fun _ _ z => by
                rw [List.append_assoc]
                exact PoX.pop z) fun h3 s4 v3 H4 post r4 => ?_
              unfold look2 at post
              split at post
              · rename_i w3 w4 e3 e4
                split at post
                · rename_i w5 e5
                  obtain ⟨F4, r4⟩ := r4
                  have q3 := r4.opd two_at'.1 e3
                  have q4 := r4.opd two_at'.2 e4
                  have c4 := r4.cok
                  have r5 : RLw G (p ++ ([(v1, h1)] ++ [(v2, h2)] ++ [(v3, h3)])) s4 σ H4 F4 := by
                    simpa [List.append_assoc] using r4
                  exact ho' (CF G F4) H4 v2 v3 w3 w4 w5 Q c4 q3 q4 e5 (r5.made post)
                · exact post.elim
              · exact post.elim
          · cases eb
        · exact post.elim
      · cases q
    · cases q
end
/-! ### to be held for good -/
def Sta.set (s : Sta) (i : Nat) (w : Vl) : Sta := ⟨s.sl.set i (some w), s.ob⟩
/-- what a handle shows, from now on for good -/
def takeFz (s : Sta) : Hd → Option (PyData × Sta)
  | .val w => if w.s.fzOk = true then some (w.d, s) else none
  | .slot i => match s.sl[i]? with
    | some (some w) => if w.s = .fz then some (w.d, s) else if w.s.fzOk = true ∧ w.l = false then some (w.d, s.set i (.f w.d)) else none
    | _ => none
section
variable {G : Fr} {W : WX} {p : Pd} {s s' : Sta} {σ : L2.St} {H H' : Hp} {F : Ix → List Addr} {v : V} {w : Vl} {d : PyData} {h : Hd} {i j : Nat} {Q : VK}
theorem getset {p : Pd} {x y : V × Hd} {i : Nat} (h : (p.set j x)[i]? = some y) : (i = j ∧ y = x) ∨ (i ≠ j ∧ p[i]? = some y) := by
  by_cases e : i = j
  · subst e
    have l : i < (p.set i x).length := (List.getElem?_eq_some_iff.mp h).1
    rw [List.getElem?_set_self (by simpa using l)] at h
    exact Or.inl ⟨rfl, (Option.some.inj h).symm⟩
  · rw [List.getElem?_set_ne (fun z => e z.symm)] at h
    exact Or.inr ⟨e, h⟩
theorem getset_at {p : Pd} {x y : V × Hd} (h : p[j]? = some y) : (p.set j x)[j]? = some x := by
  have l := (List.getElem?_eq_some_iff.mp h).1
  rw [List.getElem?_set_self l]
theorem getset_ne {p : Pd} {x : V × Hd} {i : Nat} (n : i ≠ j) : (p.set j x)[i]? = p[i]? := List.getElem?_set_ne fun z => n z.symm
theorem slset {l : List (Option Vl)} {x y : Option Vl} {k : Nat} (h : (l.set i x)[k]? = some y) : (k = i ∧ y = x) ∨ (k ≠ i ∧ l[k]? = some y) := by
  by_cases e : k = i
  · subst e
    have z : k < (l.set k x).length := (List.getElem?_eq_some_iff.mp h).1
    rw [List.getElem?_set_self (by simpa using z)] at h
    exact Or.inl ⟨rfl, (Option.some.inj h).symm⟩
  · rw [List.getElem?_set_ne (fun z => e z.symm)] at h
    exact Or.inr ⟨e, h⟩
theorem slset_at {l : List (Option Vl)} {x y : Option Vl} (h : l[i]? = some y) : (l.set i x)[i]? = some x := by
  have z := (List.getElem?_eq_some_iff.mp h).1
  rw [List.getElem?_set_self z]
/-- the handle at j shows what is for good from now on -/
theorem RLw.take (r : RLw G p s σ H F) (e : p[j]? = some (v, h)) (t : takeFz s h = some (d, s')) : ∃ F', RLw G (p.set j (v, .val (.f d))) s' σ H F' := by
  cases h with
  | val w =>
    unfold takeFz at t
    dsimp only at t
    split at t
    · rename_i ok
      injection t with t
      injection t with t1 t2
      subst t1 t2
      refine ⟨_, r.frz (x := .pd j) e ok (fun y v' w' n q => ?_) (fun y v' w' n q => ?_) (fun v' w' q => ?_) ⟨fun k v' i q => ?_, r.wf.len, r.wf.slv, r.wf.lent, r.wf.xs⟩⟩
      · cases y with
        | sl i => exact q
        | pd k =>
          rcases getset q with ⟨rfl, _⟩ | ⟨_, q⟩
          · exact (n rfl).elim
          · exact q
      · cases y with
        | sl i => exact q
        | pd k =>
          have n' : k ≠ j := fun z => n (by rw [z])
          exact (getset_ne n').trans q
      · have q' : (p.set j (v, .val (.f w.d)))[j]? = some (v', .val w') := q
        rw [getset_at e] at q'
        injection q' with q'
        injection q' with q1 q2
        injection q2 with q2
        subst q1 q2
        exact ⟨rfl, rfl, rfl⟩
      · rcases getset q with ⟨_, z⟩ | ⟨_, q⟩
        · cases z
        · exact r.wf.hd k v' i q
    · cases t
  | slot i =>
    unfold takeFz at t
    dsimp only at t
    obtain ⟨hv, ncv⟩ := r.wf.hd j v i e
    split at t
    · rename_i w ew
      -- the slot's root, exchanged on the pile for a value
      have base : ∀ {s1 : Sta} {F1 : Ix → List Addr} {w1 : Vl}, RLw G p s1 σ H F1 → s1.sl[i]? = some (some w1) → w1.s = .fz → ∃ F', RLw G (p.set j (v, .val (.f w1.d))) s1 σ H F' := fun {s1 F1 w1} r1 e1 z => by
        have o := r1.own (.sl i) v w1 ⟨hv, e1⟩
        rw [z] at o
        have fj : F1 (.pd j) = [] := by
          cases q : F1 (.pd j) with
          | nil => rfl
          | cons a f =>
            obtain ⟨v', w', q'⟩ := r1.emp (.pd j) (fun z => by rw [z] at q; cases q)
            have q2 : p[j]? = some (v', .val w') := q'
            rw [e] at q2
            cases q2
        have same : Fs F1 (.pd j) [] = F1 := by
          rw [← fj]
          exact Fs_self
        refine ⟨_, r1.chg (.pd j) [] (fun a o e _ _ => e) (fun a ha => by rw [fj] at ha; cases ha) (fun P hP => (r1.tab P hP).2) (fun a ha => by cases ha) List.nodup_nil (fun y v' w' n q => ?_) (fun y v' w' n q _ => ⟨v', w', ?_⟩) (fun v' w' q => ?_) (fun n => (n rfl).elim) ⟨fun k v' i q => ?_, r1.wf.len, r1.wf.slv, r1.wf.lent, r1.wf.xs⟩⟩
        · cases y with
          | sl i => exact Or.inl q
          | pd k =>
            rcases getset q with ⟨rfl, _⟩ | ⟨_, q⟩
            · exact (n rfl).elim
            · exact Or.inl q
        · cases y with
          | sl i => exact q
          | pd k =>
            have n' : k ≠ j := fun z => n (by rw [z])
            exact (getset_ne n').trans q
        · have q' : (p.set j (v, .val (.f w1.d)))[j]? = some (v', .val w') := q
          rw [getset_at e] at q'
          injection q' with q'
          injection q' with q1 q2
          injection q2 with q2
          subst q1 q2
          rw [same]
          exact ⟨rfl, o.2⟩
        · rcases getset q with ⟨_, z⟩ | ⟨_, q⟩
          · cases z
          · exact r1.wf.hd k v' i q
      split at t
      · rename_i z
        injection t with t
        injection t with t1 t2
        subst t1 t2
        exact base r ew z
      · split at t
        · rename_i ok
          injection t with t
          injection t with t1 t2
          subst t1 t2
          have r1 : RLw G p (s.set i (.f w.d)) σ H (Fs F (.sl i) []) := by
            refine r.frz (x := .sl i) ⟨hv, ew⟩ ok.1 (fun y v' w' n q => ?_) (fun y v' w' n q => ?_) (fun v' w' q => ?_) ⟨r.wf.hd, by simpa [Sta.set] using r.wf.len, fun k w' q => ?_, fun k w' q l => ?_, r.wf.xs⟩
            · cases y with
              | pd k => exact q
              | sl k =>
                rcases slset q.2 with ⟨rfl, _⟩ | ⟨_, q2⟩
                · exact (n rfl).elim
                · exact ⟨q.1, q2⟩
            · cases y with
              | pd k => exact q
              | sl k =>
                have n' : k ≠ i := fun z => n (by rw [z])
                exact ⟨q.1, (List.getElem?_set_ne fun z => n' z.symm).trans q.2⟩
            · have q2 : (s.sl.set i (some (.f w.d)))[i]? = some (some w') := q.2
              rw [slset_at ew] at q2
              injection q2 with q2
              injection q2 with q2
              subst q2
              have e3 := hv.symm.trans q.1
              injection e3 with e3
              injection e3 with e3
              exact ⟨e3.symm, rfl, rfl⟩
            · rcases slset q with ⟨rfl, _⟩ | ⟨_, q⟩
              · exact ⟨v, hv⟩
              · exact r.wf.slv k w' q
            · rcases slset q with ⟨rfl, z⟩ | ⟨_, q⟩
              · cases z
                cases l
              · exact r.wf.lent k w' q l
          exact base r1 (w1 := .f w.d) (slset_at ew) rfl
        · cases t
    · cases t
/-- all of them -/
def takeAll : Sta → List Hd → Option (List PyData × Sta)
  | s, [] => some ([], s)
  | s, h :: hs => match takeFz s h with
    | some (d, s1) => (match takeAll s1 hs with
      | some (ds, s2) => some (d :: ds, s2)
      | none => none)
    | none => none
abbrev vf (d : PyData) : Hd := .val (.f d)
theorem RLw.takeAll : ∀ {hs : List Hd} {vs : List V} {ds : List PyData} {p : Pd} {s s' : Sta} {F : Ix → List Addr}, RLw G (p ++ vs.zip hs) s σ H F → vs.length = hs.length → Z.takeAll s hs = some (ds, s') →
    ∃ F', RLw G (p ++ vs.zip (ds.map vf)) s' σ H F' ∧ vs.length = ds.length
  | [], vs, ds, p, s, s', F, r, l, t => by
    cases List.eq_nil_of_length_eq_zero l
    cases t
    exact ⟨F, r, rfl⟩
  | h :: hs, [], ds, p, s, s', F, r, l, t => by cases l
  | h :: hs, v :: vs, ds, p, s, s', F, r, l, t => by
    unfold Z.takeAll at t
    split at t
    · rename_i d s1 e
      split at t
      · rename_i ds' s2 e2
        cases t
        have at_ : (p ++ (v :: vs).zip (h :: hs))[p.length]? = some (v, h) := by
          rw [List.getElem?_append_right (Nat.le_refl _), Nat.sub_self]
          rfl
        obtain ⟨F1, r1⟩ := r.take at_ e
        have e3 : (p ++ (v :: vs).zip (h :: hs)).set p.length (v, vf d) = (p ++ [(v, vf d)]) ++ vs.zip hs := by
          rw [List.set_append_right _ _ (Nat.le_refl _), Nat.sub_self, List.append_assoc]
          rfl
        rw [e3] at r1
        obtain ⟨F2, r2, l2⟩ := RLw.takeAll r1 (by simpa using l) e2
        refine ⟨F2, ?_, by simpa using l2⟩
        rw [List.append_assoc] at r2
        exact r2
      · cases t
    · cases t
/-- values for good on the pile -/
theorem RLw.rps : ∀ {ds : List PyData} {vs : List V} {p : Pd}, RLw G (p ++ vs.zip (ds.map vf)) s σ H F → vs.length = ds.length → RpAll G.K (CF G F) H vs ds
  | [], vs, p, r, l => by
    cases List.eq_nil_of_length_eq_zero l
    exact .nil
  | d :: ds, [], p, r, l => by cases l
  | d :: ds, v :: vs, p, r, l => by
    have at_ : (p ++ (v :: vs).zip ((d :: ds).map vf))[p.length]? = some (v, vf d) := by
      rw [List.getElem?_append_right (Nat.le_refl _), Nat.sub_self]
      rfl
    have o := r.own (.pd p.length) v (.f d) at_
    have e3 : p ++ (v :: vs).zip ((d :: ds).map vf) = (p ++ [(v, vf d)]) ++ vs.zip (ds.map vf) := by
      rw [List.append_assoc]
      rfl
    rw [e3] at r
    exact .cons o.2 (RLw.rps r (by simpa using l))
end
/-! ### arguments, displays -/
section
variable {G : Fr} {W : WX} {p : Pd} {s s' : Sta} {σ : L2.St} {H H' : Hp} {Q : VK} {QA : List V → Hp → Prop} {ta : TE} {fa : FE} {tr : TA} {fr : FA}
def fNil : FA := fun s => .ok [] s
def fCons (fa : FE) (fr : FA) : FA := fun s => (fa s).bind fun h s1 => (fr s1).bind fun hs s2 => .ok (h :: hs) s2
theorem sem_nil : SemA G W tNil fNil := fun p s σ H Q r post => post [] H rfl (by
  show RL G (p ++ []) s σ H
  rw [List.append_nil]
  exact r)
theorem SemA.bind {β : Type} (h : SemA G W tr fr) {k : List Hd → Sta → Rs β} {P : Rs β → Prop} (no : ¬ P .no) (r : RL G p s σ H) (post : P ((fr s).bind k)) (exc : ∀ e s', P (.ex e s') → PoX G p σ W e s')
    (go : ∀ hs s' vs H', P (k hs s') → vs.length = hs.length → RL G (p ++ vs.zip hs) s' σ H' → QA vs H') : tr σ H QA := by
  refine h p s σ H QA r ?_
  cases e : fr s with
  | no =>
    rw [e] at post
    exact no post
  | ok hs s' =>
    rw [e] at post
    exact fun vs H' l r' => go hs s' vs H' post l r'
  | ex x s' =>
    rw [e] at post
    exact exc x s' post
theorem sem_cons (ha : SemE G W ta fa) (hr : SemA G W tr fr) : SemA G W (tCons ta tr) (fCons fa fr) := fun p s σ H Q r0 post => by
  refine ha.bind (P := PoA G p σ Q W) (fun z => z) r0 post (fun _ _ z => z) fun h1 s1 v1 H1 post r1 => ?_
  refine hr.bind (P := PoA G p σ Q W) (fun z => z) r1 post (fun _ _ z => PoX.pop z) fun hs s2 vs H2 post l r2 => ?_
  refine post (v1 :: vs) H2 (congrArg (· + 1) l) ?_
  rw [List.append_assoc] at r2
  exact r2
def fTup (fr : FA) : FE := fun s => (fr s).bind fun hs s1 => match takeAll s1 hs with
  | some (ds, s2) => if ds.length ≤ 100000 then .ok (.val (.f (.tuple ds))) s2 else .no
  | none => .no
def fLst (fr : FA) : FE := fun s => (fr s).bind fun hs s1 => match takeAll s1 hs with
  | some (ds, s2) => if ds.length ≤ 100000 then .ok (.val ⟨.list ds, .ls .fz, false⟩) s2 else .no
  | none => .no
theorem sem_tup (ha : SemA G W tr fr) : SemE G W (tTup tr) (fTup fr) := fun p s σ H Q r0 post => by
  refine ha.bind (P := PoE G p σ Q W) (fun z => z) r0 post (fun _ _ z => z) fun hs s1 vs H1 post l r1 => ?_
  split at post
  · rename_i ds s2 e
    split at post
    · rename_i hz
      obtain ⟨F, r1⟩ := r1
      obtain ⟨F2, r2, l2⟩ := r1.takeAll l e
      exact ⟨by rw [l2]; exact small_of hz, fun q hq => Made.tup r2.cok (r2.made post) (r2.rps l2) hq⟩
    · exact post.elim
  · exact post.elim
theorem sem_lst (ha : SemA G W tr fr) : SemE G W (tLst tr) (fLst fr) := fun p s σ H Q r0 post => by
  refine ha.bind (P := PoE G p σ Q W) (fun z => z) r0 post (fun _ _ z => z) fun hs s1 vs H1 post l r1 => ?_
  split at post
  · rename_i ds s2 e
    split at post
    · rename_i hz
      obtain ⟨F, r1⟩ := r1
      obtain ⟨F2, r2, l2⟩ := r1.takeAll l e
      exact ⟨by rw [l2]; exact small_of hz, fun q hq => Made.lst r2.cok (r2.made post) (r2.rps l2) hq⟩
    · exact post.elim
  · exact post.elim
end
end Z
/-! # statements, targets, loops -/
namespace Z
open PySem PySem.Spec PyProof.Rows L2 GxR
open Classical in
/-- the footprints of roots that were called otherwise -/
noncomputable def Fr' (p : Pd) (s : Sta) (σ : L2.St) (F : Ix → List Addr) (f : Ix → Ix) : Ix → List Addr := fun x => if ∃ v w, Rt p s σ x v w then F (f x) else []
section
variable {G : Fr} {W : WX} {p q p' : Pd} {s s' : Sta} {σ σ' : L2.St} {H H' : Hp} {F : Ix → List Addr} {v : V} {w : Vl} {d : PyData} {h : Hd} {i j : Nat} {Q : VK}
theorem Fr'_mem {f : Ix → Ix} {x : Ix} {a : Addr} (h : a ∈ Fr' p s σ F f x) : (∃ v w, Rt p s σ x v w) ∧ a ∈ F (f x) := by
  unfold Fr' at h
  split at h
  · rename_i e
    exact ⟨e, h⟩
  · cases h
theorem Fr'_at {f : Ix → Ix} {x : Ix} (q : Rt p s σ x v w) : Fr' p s σ F f x = F (f x) := if_pos ⟨v, w, q⟩
/-- the roots by other names; some may be forgotten -/
theorem RLw.reix (r : RLw G p s σ H F) (f : Ix → Ix) (roots : ∀ x v w, Rt p' s' σ' x v w → ∃ w0, Rt p s σ (f x) v w0 ∧ w0.d = w.d ∧ w0.s = w.s) (inj : ∀ x y v v' w w', Rt p' s' σ' x v w → Rt p' s' σ' y v' w' → F (f x) ≠ [] → f x = f y → x = y) (wf : Wf G p' s' σ') :
    RLw G p' s' σ' H (Fr' p' s' σ' F f) := by
  have le : ∀ a, CF G (Fr' p' s' σ' F f) a → CF G F a := fun a c => by
    rcases c with c | ⟨x, c⟩
    · exact Or.inl c
    · exact Or.inr ⟨f x, (Fr'_mem c).2⟩
  refine ⟨fun x v w q => ?_, fun x n => ?_, fun x y a hx hy => ?_, fun x => ?_, fun x a ha => ?_, r.kp, r.tab, r.bd, r.fd, fun dd fs e => ⟨(r.xcl dd fs e).1, fun c => (r.xcl dd fs e).2 (le dd c)⟩, wf⟩
  · rw [Fr'_at q]
    obtain ⟨w0, q0, e1, e2⟩ := roots x v w q
    have o := r.own (f x) v w0 q0
    rw [e1, e2] at o
    exact o.mv ⟨fun a o e n => ⟨e, fun c => n (le a c)⟩⟩ fun _ _ => rfl
  · unfold Fr' at n
    split at n
    · rename_i e
      exact e
    · exact (n rfl).elim
  · obtain ⟨⟨v1, w1, q1⟩, h1⟩ := Fr'_mem hx
    obtain ⟨⟨v2, w2, q2⟩, h2⟩ := Fr'_mem hy
    exact inj x y v1 v2 w1 w2 q1 q2 (fun z => by rw [z] at h1; cases h1) (r.dis _ _ a h1 h2)
  · unfold Fr'
    split
    · exact r.nod _
    · exact List.nodup_nil
  · exact r.nb _ a (Fr'_mem ha).2
/-- what lies under the pile's top goes -/
theorem RLw.mid (r : RLw G (p ++ q ++ [(v, h)]) s σ H F) : RL G (p ++ [(v, h)]) s σ H := by
  refine ⟨_, r.reix (fun x => match x with
    | .pd j => if j = p.length then .pd (p ++ q).length else .pd j
    | .sl i => .sl i) (fun x v' w' z => ⟨w', ?_, rfl, rfl⟩) (fun x y v1 v2 w1 w2 z1 z2 _ e => ?_) ⟨fun j v' i z => ?_, r.wf.len, r.wf.slv, r.wf.lent, r.wf.xs⟩⟩
  · cases x with
    | sl i => exact z
    | pd j =>
      dsimp only
      rcases getp z with z | ⟨rfl, e⟩
      · have l := (List.getElem?_eq_some_iff.mp z).1
        rw [if_neg (by omega)]
        exact getp_old (by rw [List.getElem?_append_left l]; exact z)
      · rw [if_pos rfl]
        show (p ++ q ++ [(v, h)])[(p ++ q).length]? = some (v', .val w')
        rw [getp_new, ← e]
  · have lt : ∀ {j v' w'}, Rt (p ++ [(v, h)]) s σ (.pd j) v' w' → j ≤ p.length := fun {j v' w'} z => by
      have := (List.getElem?_eq_some_iff.mp (show (p ++ [(v, h)])[j]? = some (v', .val w') from z)).1
      simp at this
      omega
    cases x with
    | sl i => cases y with
      | sl k => exact e
      | pd k =>
        dsimp only at e
        split at e <;> cases e
    | pd j => cases y with
      | sl k =>
        dsimp only at e
        split at e <;> cases e
      | pd k =>
        have l1 := lt z1
        have l2 := lt z2
        dsimp only at e
        by_cases e1 : j = p.length <;> by_cases e2 : k = p.length
        · rw [e1, e2]
        · rw [if_pos e1, if_neg e2] at e
          injection e with e
          simp at e
          omega
        · rw [if_neg e1, if_pos e2] at e
          injection e with e
          simp at e
          omega
        · rw [if_neg e1, if_neg e2] at e
          exact e
  · rcases getp z with z | ⟨rfl, e⟩
    · have l := (List.getElem?_eq_some_iff.mp z).1
      exact r.wf.hd j v' i (getp_old (by rw [List.getElem?_append_left l]; exact z))
    · refine r.wf.hd (p ++ q).length v' i ?_
      rw [getp_new, ← e]
/-- a value goes to a slot -/
def putSl (s : Sta) (i : Nat) (w : Vl) : Option Sta := match s.sl[i]? with
  | some (some w0) => if w0.l = true then none else some (s.set i ⟨w.d, w.s, false⟩)
  | some none => some (s.set i ⟨w.d, w.s, false⟩)
  | none => none
theorem putSl_ok {w : Vl} (e : putSl s i w = some s') : s' = s.set i ⟨w.d, w.s, false⟩ ∧ i < s.sl.length ∧ ∀ w0, s.sl[i]? = some (some w0) → w0.l = false := by
  unfold putSl at e
  split at e
  · rename_i w0 e0
    split at e
    · cases e
    · rename_i l
      cases e
      refine ⟨rfl, (List.getElem?_eq_some_iff.mp e0).1, fun w1 e1 => ?_⟩
      rw [e0] at e1
      cases e1
      cases q : w0.l with
      | true => exact (l q).elim
      | false => rfl
  · rename_i e0
    cases e
    refine ⟨rfl, (List.getElem?_eq_some_iff.mp e0).1, fun w1 e1 => ?_⟩
    rw [e0] at e1
    cases e1
  · cases e
theorem setσ {l : L2.St} {x y : Option V} {k : Nat} (h : (l.set i x)[k]? = some y) : (k = i ∧ y = x) ∨ (k ≠ i ∧ l[k]? = some y) := by
  by_cases e : k = i
  · subst e
    have z : k < (l.set k x).length := (List.getElem?_eq_some_iff.mp h).1
    rw [List.getElem?_set_self (by simpa using z)] at h
    exact Or.inl ⟨rfl, (Option.some.inj h).symm⟩
  · rw [List.getElem?_set_ne (fun z => e z.symm)] at h
    exact Or.inr ⟨e, h⟩
theorem RLw.toSlot (hx : XD G [i]) (r : RLw G (p ++ [(v, .val w)]) s σ H F) (no : ∀ (j : Nat) v k, p[j]? = some (v, .slot k) → k ≠ i) (e : putSl s i w = some s') : RL G p s' (σ.set i (some v)) H := by
  obtain ⟨rfl, hi, nl⟩ := putSl_ok e
  have hiσ : i < σ.length := by rw [r.wf.len]; exact hi
  have top : Rt (p ++ [(v, Hd.val w)]) s σ (.pd p.length) v w := getp_new
  have nopd : ∀ {j v' w'}, Rt p (s.set i ⟨w.d, w.s, false⟩) (σ.set i (some v)) (.pd j) v' w' → j < p.length := fun z => (List.getElem?_eq_some_iff.mp z).1
  refine ⟨_, r.reix (fun x => if x = .sl i then .pd p.length else x) (fun x v' w' z => ?_) (fun x y v1 v2 w1 w2 z1 z2 _ e => ?_) ⟨fun j v' k z => ⟨(List.getElem?_set_ne fun y => no j v' k z y.symm).trans (r.wf.hd j v' k (getp_old z)).1, (r.wf.hd j v' k (getp_old z)).2⟩, by simpa [Sta.set] using r.wf.len, fun k w' z => ?_, fun k w' z l => ?_, hx.set r.wf.xs⟩⟩
  · by_cases h : x = .sl i
    · subst h
      rw [if_pos rfl]
      obtain ⟨z1, z2⟩ := z
      rcases setσ z1 with ⟨_, z1⟩ | ⟨n, _⟩
      · rcases slset z2 with ⟨_, z2⟩ | ⟨n, _⟩
        · cases z1
          cases z2
          exact ⟨w, top, rfl, rfl⟩
        · exact (n rfl).elim
      · exact (n rfl).elim
    · rw [if_neg h]
      cases x with
      | pd j => exact ⟨w', getp_old z, rfl, rfl⟩
      | sl k =>
        have n : k ≠ i := fun y => h (by rw [y])
        obtain ⟨z1, z2⟩ := z
        rcases setσ z1 with ⟨e, _⟩ | ⟨_, z1⟩
        · exact (n e).elim
        · rcases slset z2 with ⟨e, _⟩ | ⟨_, z2⟩
          · exact (n e).elim
          · exact ⟨w', ⟨z1, z2⟩, rfl, rfl⟩
  · by_cases h1 : x = .sl i <;> by_cases h2 : y = .sl i
    · rw [h1, h2]
    · rw [if_pos h1, if_neg h2] at e
      subst e
      exact (Nat.lt_irrefl _ (nopd z2)).elim
    · rw [if_neg h1, if_pos h2] at e
      subst e
      exact (Nat.lt_irrefl _ (nopd z1)).elim
    · rw [if_neg h1, if_neg h2] at e
      exact e
  · rcases slset z with ⟨rfl, _⟩ | ⟨n, z⟩
    · exact ⟨v, by rw [List.getElem?_set_self hiσ]⟩
    · obtain ⟨v', e⟩ := r.wf.slv k w' z
      exact ⟨v', (List.getElem?_set_ne fun y => n y.symm).trans e⟩
  · rcases slset z with ⟨rfl, z2⟩ | ⟨n, z2⟩
    · injection z2 with z2
      subst z2
      cases l
    · obtain ⟨v', e1, e2⟩ := r.wf.lent k w' z2 l
      exact ⟨v', e1, (List.getElem?_set_ne fun y => n y.symm).trans e2⟩
/-- what a handle shows goes to a slot -/
def asg (s : Sta) (i : Nat) : Hd → Option Sta
  | .val w => putSl s i w
  | .slot j => match takeFz s (.slot j) with
    | some (d, s1) => putSl s1 i (.f d)
    | none => none
theorem RL.asg (hx : XD G [i]) (r : RL G (p ++ [(v, h)]) s σ H) (no : ∀ (j : Nat) v k, p[j]? = some (v, .slot k) → k ≠ i) (e : Z.asg s i h = some s') : RL G p s' (σ.set i (some v)) H := by
  obtain ⟨F, r⟩ := r
  cases h with
  | val w => exact r.toSlot hx no e
  | slot j =>
    unfold Z.asg at e
    dsimp only at e
    split at e
    · rename_i d s1 t
      obtain ⟨F1, r1⟩ := r.take getp_new t
      have e3 : (p ++ [(v, Hd.slot j)]).set p.length (v, .val (.f d)) = p ++ [(v, .val (.f d))] := by
        rw [List.set_append_right _ _ (Nat.le_refl _), Nat.sub_self]
        rfl
      rw [e3] at r1
      exact r1.toSlot hx no e
    · cases e
end
/-! ### targets -/
/-- no slot of T waits on the pile -/
def Safe (p : Pd) (T : List Nat) : Prop := ∀ (j : Nat) v k, p[j]? = some (v, .slot k) → k ∉ T
theorem NoS.safe {p : Pd} (h : NoS p) (T : List Nat) : Safe p T := fun j v k z => (h j v k z).elim
/-- only slots of T are others -/
def Only (T : List Nat) (σ σ' : L2.St) : Prop := σ'.length = σ.length ∧ ∀ i, i ∉ T → σ'[i]? = σ[i]?
theorem Only.refl {T : List Nat} {σ : L2.St} : Only T σ σ := ⟨rfl, fun _ _ => rfl⟩
theorem Only.trans {T : List Nat} {a b c : L2.St} (h : Only T a b) (k : Only T b c) : Only T a c := ⟨k.1.trans h.1, fun i n => (k.2 i n).trans (h.2 i n)⟩
/-- T: the slots of the target's names -/
def SemG (G : Fr) (T : List Nat) (g : TG) (fg : Sta → Hd → Option Sta) : Prop := ∀ p s σ H v h s' (Q : L2.St → Hp → Prop), Safe p T → RL G (p ++ [(v, h)]) s σ H → fg s h = some s' → (∀ σ' H', Only T σ σ' → RL G p s' σ' H' → Q σ' H') → g v σ H Q
def SemGs (G : Fr) (T : List Nat) (g : TGs) (fg : Sta → List PyData → Option Sta) : Prop := ∀ p s σ H vs ds s' (Q : L2.St → Hp → Prop), Safe p T → RL G (p ++ vs.zip (ds.map vf)) s σ H → vs.length = ds.length → fg s ds = some s' → (∀ σ' H', Only T σ σ' → RL G p s' σ' H' → Q σ' H') → g vs σ H Q
section
variable {G : Fr} {W : WX} {p q p' : Pd} {s s' : Sta} {σ σ' : L2.St} {H H' : Hp} {F : Ix → List Addr} {v : V} {w : Vl} {d : PyData} {h : Hd} {i j n : Nat} {g : TG} {gs : TGs} {fg : Sta → Hd → Option Sta} {fgs : Sta → List PyData → Option Sta}
theorem semg_name (hx : XD G [i]) : SemG G [i] (gName i) (fun s h => asg s i h) := fun p s σ H v h s' Q no r e k => k _ _ ⟨List.length_set, fun j n => List.getElem?_set_ne fun z => n (by rw [z]; exact List.mem_singleton.mpr rfl)⟩ (r.asg hx (fun j v k z y => no j v k z (by rw [y]; exact List.mem_singleton.mpr rfl)) e)
theorem semgs_nil : SemGs G [] gNil (fun s ds => match ds with
    | [] => some s
    | _ => none) := fun p s σ H vs ds s' Q no r l e k => by
  cases ds with
  | nil =>
    cases List.eq_nil_of_length_eq_zero l
    cases e
    refine ⟨rfl, k _ _ Only.refl ?_⟩
    rw [List.zip_nil_left, List.append_nil] at r
    exact r
  | cons d ds => cases e
/-- the first of the pile's last -/
theorem RL.front {x : V × Hd} {xs : Pd} (r : RL G (p ++ x :: xs) s σ H) (_ : NoS xs) : RL G (p ++ xs ++ [x]) s σ H := by
  obtain ⟨F, r⟩ := r
  have key : ∀ {j y}, (p ++ xs ++ [x])[j]? = some y → (p ++ x :: xs)[if j < p.length then j else if j = (p ++ xs).length then p.length else j + 1]? = some y := fun {j y} z => by
    rcases getp z with z | ⟨rfl, rfl⟩
    · have l := (List.getElem?_eq_some_iff.mp z).1
      by_cases h1 : j < p.length
      · rw [if_pos h1, List.getElem?_append_left h1]
        rw [List.getElem?_append_left h1] at z
        exact z
      · rw [if_neg h1, if_neg (by omega)]
        rw [List.getElem?_append_right (by omega)] at z
        rw [List.getElem?_append_right (by omega), show j + 1 - p.length = (j - p.length) + 1 by omega]
        exact z
    · rw [if_neg (by simp), if_pos rfl, List.getElem?_append_right (Nat.le_refl _), Nat.sub_self]
      rfl
  have lt : ∀ {j v' w'}, Rt (p ++ xs ++ [x]) s σ (.pd j) v' w' → j ≤ (p ++ xs).length := fun {j v' w'} z => by
    have := (List.getElem?_eq_some_iff.mp (show (p ++ xs ++ [x])[j]? = some (v', .val w') from z)).1
    simp at this ⊢
    omega
  refine ⟨_, r.reix (fun y => match y with
    | .pd j => .pd (if j < p.length then j else if j = (p ++ xs).length then p.length else j + 1)
    | .sl i => .sl i) (fun y v' w' z => ⟨w', ?_, rfl, rfl⟩) (fun y z v1 v2 w1 w2 z1 z2 _ e => ?_) ⟨fun j v' i z => r.wf.hd _ v' i (key z), r.wf.len, r.wf.slv, r.wf.lent, r.wf.xs⟩⟩
  · cases y with
    | sl i => exact z
    | pd j => exact key z
  · cases y with
    | sl i => cases z with
      | sl k => exact e
      | pd k => cases e
    | pd j => cases z with
      | sl k => cases e
      | pd k =>
        have l1 := lt z1
        have l2 := lt z2
        dsimp only at e
        injection e with e
        have : j = k := by
          have hl : (p ++ xs).length = p.length + xs.length := List.length_append
          rw [hl] at e l1 l2
          split at e <;> split at e <;> (try split at e) <;> (try split at e) <;> omega
        rw [this]
theorem NoS.zip : ∀ {vs : List V} {ds : List PyData}, NoS (vs.zip (ds.map vf))
  | [], _, j, v, i => by simp
  | _ :: _, [], j, v, i => by simp
  | x :: vs, d :: ds, 0, v, i => fun z => by
    have z' : (x, vf d) = (v, Hd.slot i) := by simpa using z
    cases z'
  | x :: vs, d :: ds, j + 1, v, i => fun z => by
    have z' : (vs.zip (ds.map vf))[j]? = some (v, Hd.slot i) := by simpa using z
    exact NoS.zip j v i z'
theorem NoS.app (a : NoS p) (b : NoS q) : NoS (p ++ q) := fun j v i z => by
  by_cases l : j < p.length
  · rw [List.getElem?_append_left l] at z
    exact a j v i z
  · rw [List.getElem?_append_right (Nat.le_of_not_lt l)] at z
    exact b _ v i z
theorem semgs_cons {T U : List Nat} (hg : SemG G T g fg) (hs : SemGs G U gs fgs) : SemGs G (T ++ U) (gCons g gs) (fun s ds => match ds with
    | d :: ds => (match fg s (vf d) with
      | some s1 => fgs s1 ds
      | none => none)
    | [] => none) := fun p s σ H vs ds s' Q no r l e k => by
  cases ds with
  | nil => cases e
  | cons d ds =>
    cases vs with
    | nil => cases l
    | cons v vs =>
      dsimp only at e
      split at e
      · rename_i s1 e1
        have r' : RL G (p ++ vs.zip (ds.map vf) ++ [(v, vf d)]) s σ H := RL.front (p := p) (x := (v, vf d)) (xs := vs.zip (ds.map vf)) r NoS.zip
        have sf : Safe (p ++ vs.zip (ds.map vf)) T := fun j v k z => by
          by_cases l : j < p.length
          · rw [List.getElem?_append_left l] at z
            exact fun m => no j v k z (List.mem_append_left _ m)
          · rw [List.getElem?_append_right (Nat.le_of_not_lt l)] at z
            exact (NoS.zip _ v k z).elim
        refine ⟨v, vs, rfl, hg _ s σ H v (vf d) s1 _ sf r' e1 fun σ1 H1 o1 r1 => ?_⟩
        refine hs p s1 σ1 H1 vs ds s' Q (fun j v k z m => no j v k z (List.mem_append_right _ m)) r1 (by simpa using l) e fun σ2 H2 o2 r2 => k σ2 H2 ?_ r2
        exact ⟨o2.1.trans o1.1, fun i n => (o2.2 i fun m => n (List.mem_append_right _ m)).trans (o1.2 i fun m => n (List.mem_append_left _ m))⟩
      · cases e
theorem RLw.pushAll : ∀ {vs : List V} {ds : List PyData} {p : Pd}, RLw G p s σ H F → RpAll G.K (CF G F) H vs ds → RLw G (p ++ vs.zip (ds.map vf)) s σ H F
  | _, _, p, r, .nil => by
    rw [List.zip_nil_left, List.append_nil]
    exact r
  | _, _, p, r, .cons q t => by
    have := RLw.pushAll (r.push q) t
    rw [List.append_assoc] at this
    exact this
theorem semg_tup {T : List Nat} (hs : SemGs G T gs fgs) : SemG G T (gTup G.K n gs) (fun s h => match lookH s h with
    | some ⟨.tuple ds, _, _⟩ => if ds.length = n then fgs s ds else none
    | _ => none) := fun p s σ H v h s' Q no r e k => by
  obtain ⟨F, r⟩ := r
  dsimp only at e
  split at e
  · rename_i ds sh l q
    split at e
    · rename_i hn
      obtain ⟨a, vs, rfl, st, ra⟩ := (r.opd getp_new q).tup rfl
      have len := ra.len
      refine ⟨a, vs, rfl, st.sq, len.trans hn, hs p s σ H vs ds s' Q no ?_ len e k⟩
      -- the items on the pile in the tuple's place
      obtain ⟨F1, r1, le⟩ := r.popN (q := [(.ref a, h)])
      have ra1 : RpAll G.K (CF G F1) H vs ds := ra.less le
      exact ⟨F1, r1.pushAll ra1⟩
    · cases e
  · cases e
end
/-! ### statements -/
section
variable {G : Fr} {W : WX} {p q : Pd} {s s' : Sta} {σ σ' : L2.St} {H H' : Hp} {D : Ends} {te : TE} {fe : FE} {t u : TS} {ft fu : FS} {c : TT} {fc : FT} {i : Nat} {g : TG} {fg : Sta → Hd → Option Sta}
def fSeq (ft fu : FS) : FS := fun s => (ft s).bind fun fl s1 => match fl with
  | .nx => fu s1
  | fl => .ok fl s1
theorem SemS.bind {β : Type} (ht : SemS G W t ft) {k : Fl → Sta → Rs β} {P : Rs β → Prop} (no : ¬ P .no) (ns : NoS p) (r : RL G p s σ H) (post : P ((ft s).bind k)) (exc : ∀ e s', P (.ex e s') → PoS G p D W (.ex e s')) (go : ∀ fl s', P (k fl s') → PoS G p D W (.ok fl s')) : t D σ H := by
  refine ht p s σ H D ns r ?_
  cases e : ft s with
  | no =>
    rw [e] at post
    exact no post
  | ok fl s' =>
    rw [e] at post
    exact go fl s' post
  | ex x s' =>
    rw [e] at post
    exact exc x s' post
theorem sem_seq (ht : SemS G W t ft) (hu : SemS G W u fu) : SemS G W (tSeq t u) (fSeq ft fu) := fun p s σ H D ns r post => by
  refine ht.bind (P := PoS G p D W) (fun z => z) ns r post (fun _ _ z => z) fun fl s' post => ?_
  cases fl with
  | nx => exact fun σ' H' r' => hu p s' σ' H' D ns r' post
  | rt h => exact post
  | bk => exact post
  | ct => exact post
def fNext : FS := fun s => .ok .nx s
theorem sem_next : SemS G W tNext fNext := fun p s σ H D ns r post => post σ H r
def fBk : FS := fun s => .ok .bk s
def fCt : FS := fun s => .ok .ct s
theorem sem_break : SemS G W tBreak fBk := fun p s σ H D ns r post => post σ H r
theorem sem_cont : SemS G W tCont fCt := fun p s σ H D ns r post => post σ H r
/-- an expression's value, then the statement's end -/
theorem SemE.bindS {β : Type} {k : Hd → Sta → Rs β} {P : Rs β → Prop} {Q : VK} (h : SemE G W te fe) (no : ¬ P .no) (r : RL G p s σ H) (post : P ((fe s).bind k)) (exc : ∀ e s', P (.ex e s') → PoS G p D W (.ex e s')) (go : ∀ hd s' v H', P (k hd s') → RL G (p ++ [(v, hd)]) s' σ H' → Q v H') : te σ H Q :=
  h.bind no r post (fun e s' z d H' r' => exc e s' z d σ H' r') go
def fRet (fe : FE) : FS := fun s => (fe s).bind fun h s1 => .ok (.rt h) s1
theorem sem_ret (he : SemE G W te fe) : SemS G W (tRet te) (fRet fe) := fun p s σ H D ns r post =>
  he.bindS (P := PoS G p D W) (fun z => z) r post (fun _ _ z => z) fun h s1 v H1 post r1 => post v σ H1 r1
def fRetN : FS := fun s => .ok (.rt (vf .none)) s
theorem sem_retN : SemS G W tRetN fRetN := fun p s σ H D ns r post => post _ σ H (r.pushF fun _ => .non)
def fDrop (fe : FE) : FS := fun s => (fe s).bind fun _ s1 => .ok .nx s1
theorem sem_drop (he : SemE G W te fe) : SemS G W (tDrop te) (fDrop fe) := fun p s σ H D ns r post =>
  he.bindS (P := PoS G p D W) (fun z => z) r post (fun _ _ z => z) fun h s1 v H1 post r1 => post σ H1 r1.popN
def fIfS (fc : FT) (ft fu : FS) : FS := fun s => (fc s).bind fun b s1 => if b = true then ft s1 else fu s1
theorem sem_if (hc : SemT G W c fc) (ht : SemS G W t ft) (hu : SemS G W u fu) : SemS G W (tIfS c t u) (fIfS fc ft fu) := fun p s σ H D ns r post => by
  refine hc.bind (P := PoS G p D W) (fun z => z) r post (fun e s' z d H' r' => z d σ H' r') fun b s1 H1 post r1 => ?_
  cases b with
  | true => exact ht p s1 σ H1 D ns r1 post
  | false => exact hu p s1 σ H1 D ns r1 post
/-- to the next, if there is a state -/
def nxO (o : Option Sta) : Rs Fl := match o with
  | some s => .ok .nx s
  | none => .no
def fAsg (fe : FE) (fg : Sta → Hd → Option Sta) : FS := fun s => (fe s).bind fun h s1 => nxO (fg s1 h)
theorem sem_asg {T : List Nat} (he : SemE G W te fe) (hg : SemG G T g fg) : SemS G W (tAsg te g) (fAsg fe fg) := fun p s σ H D ns r post => by
  refine he.bindS (P := PoS G p D W) (fun z => z) r post (fun _ _ z => z) fun h s1 v H1 post r1 => ?_
  unfold nxO at post
  split at post
  · rename_i s2 e
    exact hg p s1 σ H1 v h s2 D.nx (ns.safe T) r1 e fun σ' H' _ r' => post σ' H' r'
  · exact post.elim
/-- x op= e -/
def IpS (G : Fr) (ti : TIp) (g : Vl → Vl → Option Vl) : Prop := OpS G ti g
def fAug (i : Nat) (fe : FE) (g : Vl → Vl → Option Vl) : FS := fun s => (fN i s).bind fun h s1 => (fe s1).bind fun h2 s2 => (look2 s2 h h2 g).bind fun h3 s3 => nxO (asg s3 i h3)
theorem sem_aug {ti : TIp} {gf : Vl → Vl → Option Vl} (hx : XD G [i]) (n : i ∉ G.cv) (he : SemE G W te fe) (ho : IpS G ti gf) : SemS G W (tAug i te ti) (fAug i fe gf) := fun p s σ H D ns r post => by
  have hv : tVar i σ H fun x H0 => te σ H0 fun y H1 => ti x y H1 fun z H2 => D.nx (σ.set i (some z)) H2 := by
    refine (sem_n (W := W) n).bindS (P := PoS G p D W) (fun z => z) r post (fun _ _ z => z) fun h s1 v H0 post r0 => ?_
    refine he.bind (P := PoS G p D W) (fun z => z) r0 post (fun e s' z => PoX.pop fun d H' r' => z d σ H' r') fun h2 s2 v2 H2 post r2 => ?_
    cases q : look2 s2 h h2 gf with
    | no =>
      rw [q] at post
      exact post.elim
    | ex e s' =>
      unfold look2 at q
      split at q
      · split at q <;> cases q
      · cases q
    | ok h3 s3 =>
      rw [q] at post
      unfold look2 at q
      split at q
      · rename_i w1 w2 e1 e2
        split at q
        · rename_i w e
          injection q with q1 q2
          subst q1 q2
          obtain ⟨F, r2⟩ := r2
          have q1 := r2.opd two_at.1 e1
          have q2 := r2.opd two_at.2 e2
          have c := r2.cok
          rw [List.append_assoc] at r2
          refine ho (CF G F) H2 v v2 w1 w2 w _ c q1 q2 e fun v3 H3 f a b c d o => ?_
          have r3 := r2.res a b c d o
          replace post : PoS G p D W (nxO (asg s2 i (.val w))) := post
          unfold nxO at post
          split at post
          · rename_i s4 e4
            exact post _ _ (r3.asg hx (fun j v k z => (ns j v k z).elim) e4)
          · exact post.elim
        · cases q
      · cases q
  obtain ⟨v, e, k⟩ := hv
  exact ⟨v, e, k⟩
/-! ### while -/
def fWhile : Nat → FT → FS → FS
  | 0, _, _ => fun _ => .no
  | n + 1, fc, fb => fun s => (fc s).bind fun b s1 => if b = true then (fb s1).bind fun fl s2 => (match fl with
    | .nx => fWhile n fc fb s2
    | .ct => fWhile n fc fb s2
    | .bk => .ok .nx s2
    | .rt h => .ok (.rt h) s2) else .ok .nx s1
theorem sem_while {n : Nat} {tb : TS} {fb : FS} (hc : SemT G W c fc) (hb : SemS G W tb fb) : SemS G W (tWhile c tb) (fWhile n fc fb) := fun p s σ H D ns r post => by
  refine ⟨fun m σ' H' => ∃ s', RL G p s' σ' H' ∧ PoS G p D W (fWhile m fc fb s'), ⟨n, s, r, post⟩, ?_⟩
  rintro m σ' H' ⟨s', r', post⟩
  cases m with
  | zero => exact post.elim
  | succ m =>
    refine hc.bind (P := PoS G p D W) (fun z => z) r' post (fun e s' z d H' r' => z d σ' H' r') fun b s1 H1 post r1 => ?_
    cases b with
    | false => exact post σ' H1 r1
    | true =>
      rw [if_pos rfl]
      refine ⟨fun σ2 H2 => ∃ s2, RL G p s2 σ2 H2 ∧ PoS G p D W (fWhile m fc fb s2), fun σ2 H2 z => ⟨m, Nat.lt_succ_self m, z⟩, ?_⟩
      refine hb.bind (P := PoS G p D W) (fun z => z) ns r1 post (fun _ _ z => z) fun fl s2 post => ?_
      cases fl with
      | nx => exact fun σ2 H2 r2 => ⟨s2, r2, post⟩
      | ct => exact fun σ2 H2 r2 => ⟨s2, r2, post⟩
      | bk => exact post
      | rt h => exact post
/-! ### for -/
/-- J walks ds, while q lies on the pile -/
structure Walks (G : Fr) (p q : Pd) (J : It) (ds : List PyData) : Prop where
  ns : NoS q
  stop : ∀ r i H s σ, RL G (p ++ q ++ r) s σ H → i = ds.length → J.stop i H
  go : ∀ r i H s σ, RL G (p ++ q ++ r) s σ H → i < ds.length → J.go i H
  yld : ∀ r i H s σ d x H', RL G (p ++ q ++ r) s σ H → ds[i]? = some d → J.yld i H x H' → RL G (p ++ q ++ r ++ [(x, vf d)]) s σ H'
def SemI (G : Fr) (W : WX) (wi : TI) (fi : Sta → Rs (List PyData)) : Prop := ∀ p s σ H (R : It → Hp → Prop), RL G p s σ H → (match fi s with
  | .ok ds s' => ∀ q J H', RL G (p ++ q) s' σ H' → Walks G p q J ds → R J H'
  | .ex e s' => PoX G p σ W e s'
  | .no => False) → wi σ H R
def loopF (fg : Sta → Hd → Option Sta) (fb : FS) : List PyData → FS
  | [] => fun s => .ok .nx s
  | d :: ds => fun s => match fg s (vf d) with
    | none => .no
    | some s1 => (fb s1).bind fun fl s2 => (match fl with
      | .nx => loopF fg fb ds s2
      | .ct => loopF fg fb ds s2
      | .bk => .ok .nx s2
      | .rt h => .ok (.rt h) s2)
def fFor (fi : Sta → Rs (List PyData)) (fg : Sta → Hd → Option Sta) (fb : FS) : FS := fun s => (fi s).bind fun ds s1 => loopF fg fb ds s1
theorem PoS.push {r : Rs Fl} (z : PoS G p D W r) : PoS G (p ++ q) D W r := by
  match r, z with
  | .ok .nx s, z => exact fun σ' H' r' => z σ' H' r'.popN
  | .ok .bk s, z => exact fun σ' H' r' => z σ' H' r'.popN
  | .ok .ct s, z => exact fun σ' H' r' => z σ' H' r'.popN
  | .ok (.rt h) s, z =>
    intro v σ' H' r'
    obtain ⟨F, r'⟩ := r'
    exact z v σ' H' r'.mid
  | .ex e s, z =>
    intro d σ' H' r'
    obtain ⟨F, r', x⟩ := r'
    obtain ⟨F', r2, le⟩ := r'.popN
    refine z d σ' H' ⟨F', r2, ?_⟩
    revert x
    cases e.fs with
    | none => exact fun x => x
    | some fs => exact fun ⟨dd, e1, e2, n⟩ => ⟨dd, e1, e2, fun c => n (le _ c)⟩
theorem sem_for {T : List Nat} {wi : TI} {fi : Sta → Rs (List PyData)} {tb : TS} {fb : FS} (hi : SemI G W wi fi) (hg : SemG G T g fg) (hb : SemS G W tb fb) : SemS G W (tFor wi g tb) (fFor fi fg fb) := fun p s σ H D ns r post => by
  refine hi p s σ H _ r ?_
  unfold fFor at post
  cases e : fi s with
  | no =>
    rw [e] at post
    exact post
  | ex x s' =>
    rw [e] at post
    exact fun d H' r' => post d σ H' r'
  | ok ds s1 =>
    rw [e] at post
    replace post : PoS G p D W (loopF fg fb ds s1) := post
    intro q J H1 r1 wk
    have ns' := ns.app wk.ns
    refine ⟨fun i m σ' H' => m = ds.length - i ∧ i ≤ ds.length ∧ ∃ s', RL G (p ++ q) s' σ' H' ∧ PoS G p D W (loopF fg fb (ds.drop i) s'), ⟨ds.length, rfl, Nat.zero_le _, s1, r1, post⟩, ?_⟩
    rintro i m σ' H' ⟨rfl, hi, s', r', post⟩
    by_cases hl : i < ds.length
    · have r0 : RL G (p ++ q ++ []) s' σ' H' := by
        rw [List.append_nil]
        exact r'
      refine Or.inr ⟨wk.go [] i H' s' σ' r0 hl, fun σ2 H2 => ∃ s2, RL G (p ++ q) s2 σ2 H2 ∧ PoS G p D W (loopF fg fb (ds.drop (i + 1)) s2), fun σ2 H2 z => ⟨ds.length - (i + 1), by omega, rfl, by omega, z⟩, fun x H2 y => ?_⟩
      have r2 := wk.yld [] i H' s' σ' ds[i] x H2 r0 (List.getElem?_eq_getElem hl) y
      rw [List.append_nil] at r2
      rw [List.drop_eq_getElem_cons hl] at post
      unfold loopF at post
      split at post
      · exact post.elim
      · rename_i s3 e3
        refine hg (p ++ q) s' σ' H2 x _ s3 _ (ns'.safe T) r2 e3 fun σ3 H3 _ r3 => ?_
        refine hb.bind (P := PoS G p D W) (fun z => z) ns' r3 post (fun _ _ z => PoS.push (D := { D with nx := _, ct := _, bk := D.nx }) (r := .ex _ _) z) fun fl s4 post => ?_
        cases fl with
        | nx => exact fun σ4 H4 r4 => ⟨s4, r4, post⟩
        | ct => exact fun σ4 H4 r4 => ⟨s4, r4, post⟩
        | bk => exact fun σ4 H4 r4 => post σ4 H4 r4.popN
        | rt h =>
          intro v σ4 H4 r4
          obtain ⟨F, r4⟩ := r4
          exact post v σ4 H4 r4.mid
    · exact Or.inl ⟨wk.stop [] i H' s' σ' (by rw [List.append_nil]; exact r') (by omega), by
        rw [List.drop_of_length_le (by omega)] at post
        exact post σ' H' r'.popN⟩
end
end Z
/-! # defs and their calls -/
namespace Z
open PySem PySem.Spec PyProof.Rows L2 GxR
/-- what a def gives: its value, what stands in the arguments that were lent -/
inductive Dr | no | ok (w : Vl) (as : List (Option Vl)) (ob : List Ob1) | ex (e : Xn) (as : List (Option Vl)) (ob : List Ob1)
abbrev FDef := List Vl → List Ob1 → Dr
def Vl.enter (w : Vl) : Vl := ⟨w.d, w.s, !w.s.cp⟩
def stIn (args : List Vl) (n : Nat) (ob : List Ob1) : Sta := ⟨args.map (fun w => some w.enter) ++ List.replicate n none, ob⟩
/-- what stands in the slots that were lent -/
def stOut : List Vl → List (Option Vl) → List (Option Vl)
  | [], _ => []
  | w :: args, o :: sl => (if w.s.cp = true then none else match o with
    | some w' => if w'.l = true then some w' else none
    | none => none) :: stOut args sl
  | _ :: args, [] => none :: stOut args []
def retV (s : Sta) (h : Hd) : Option Vl := match h with
  | .val w => some w
  | .slot i => match s.sl[i]? with
    | some (some w) => if w.l = true then none else some w
    | _ => none
def fDef (n : Nat) (body : FS) : FDef := fun args ob => match body (stIn args n ob) with
  | .ok .nx s => .ok (.f .none) (stOut args s.sl) s.ob
  | .ok (.rt h) s => (match retV s h with
    | some w => .ok w (stOut args s.sl) s.ob
    | none => .no)
  | .ok _ _ => .no
  | .ex e s => .ex e (stOut args s.sl) s.ob
  | .no => .no
def G0 (K : PySem.W.Frag) (cs : List Addr) (B : Addr → Prop) (H : Hp) (f0 : List Addr) (vs : List V) : Fr := ⟨K, cs, B, H, f0, vs, [], none, fun _ => True⟩
def PoD (G : Fr) (vs : List V) (Q : VK) (E : XK) : Dr → Prop
  | .ok w as ob => ∀ v H', RL G [(v, .val w)] ⟨as, ob⟩ (vs.map some) H' → Q v H'
  | .ex e as ob => ∀ d H', RLx G [] ⟨as, ob⟩ (vs.map some) H' e d → E (.ref (He.ga G.K e.cls)) d H'
  | .no => False
/-- the promise by a function -/
def spF (K : PySem.W.Frag) (cs : List Addr) (n : Nat) (g : FDef) : Sp := fun vs H Q E => ∃ (B : Addr → Prop) (f0 : List Addr) (args : List Vl) (ob : List Ob1), vs.length = n ∧ args.length = n ∧
  RL (G0 K cs B H f0 vs) [] (stIn args 0 ob) (vs.map some) H ∧ PoD (G0 K cs B H f0 vs) vs Q E (g args ob)
section
variable {K : PySem.W.Frag} {cs : List Addr} {n m : Nat} {g : FDef} {vs : List V} {H H' : Hp} {Q : VK} {E : XK} {B : Addr → Prop} {f0 : List Addr} {args : List Vl} {ob : List Ob1} {s : Sta} {σ : L2.St} {v : V} {h : Hd} {w : Vl}
theorem spF_len (h : spF K cs n g vs H Q E) : vs.length = n := by
  obtain ⟨_, _, _, _, e, _⟩ := h
  exact e
theorem stOut_at : ∀ {args : List Vl} {sl : List (Option Vl)} {j : Nat} {w' : Vl}, (stOut args sl)[j]? = some (some w') → sl[j]? = some (some w') ∧ w'.l = true ∧ ∃ w, args[j]? = some w ∧ ¬ w.s.cp = true
  | [], _, j, w', h => by simp [stOut] at h
  | w :: args, [], 0, w', h => by simp [stOut] at h
  | w :: args, [], j + 1, w', h => by
    have h' : (stOut args [])[j]? = some (some w') := by simpa [stOut] using h
    obtain ⟨h1, _⟩ := stOut_at h'
    simp at h1
  | w :: args, o :: sl, 0, w', h => by
    have h' : (if w.s.cp = true then none else match o with
      | some w' => if w'.l = true then some w' else none
      | none => none) = some w' := by simpa [stOut] using h
    split at h'
    · cases h'
    · rename_i ne
      split at h'
      · rename_i w2
        split at h'
        · rename_i l
          cases h'
          exact ⟨rfl, l, w, rfl, ne⟩
        · cases h'
      · cases h'
  | w :: args, o :: sl, j + 1, w', h => by
    have h' : (stOut args sl)[j]? = some (some w') := by simpa [stOut] using h
    obtain ⟨h1, h2, w2, h3, h4⟩ := stOut_at h'
    exact ⟨by simpa using h1, h2, w2, by simpa using h3, h4⟩
theorem stOut_len : ∀ {args : List Vl} {sl : List (Option Vl)}, (stOut args sl).length = args.length
  | [], _ => rfl
  | _ :: args, [] => congrArg (· + 1) (stOut_len (args := args) (sl := []))
  | _ :: args, _ :: sl => congrArg (· + 1) (stOut_len (args := args) (sl := sl))
/-- the slots of a def as it begins: some more that hold nothing; comprehensions' names -/
theorem RL.more {cv : List Nat} (r : RL (G0 K cs B H f0 vs) [] (stIn args 0 ob) (vs.map some) H') (hl : vs.length = args.length) (m : Nat) : RL ⟨K, cs, B, H, f0, vs, cv, none, fun _ => True⟩ [] (stIn args m ob) (vs.map some ++ List.replicate m none) H' := by
  obtain ⟨F, r⟩ := r
  have sl0 : (stIn args 0 ob).sl = args.map (fun w => some w.enter) := List.append_nil _
  have key : ∀ {i : Nat} {w' : Vl}, (stIn args m ob).sl[i]? = some (some w') → (stIn args 0 ob).sl[i]? = some (some w') ∧ i < vs.length := fun {i w'} z => by
    rw [sl0]
    have z' : (args.map (fun w => some w.enter) ++ List.replicate m none)[i]? = some (some w') := z
    by_cases l : i < (args.map (fun w => some w.enter)).length
    · rw [List.getElem?_append_left l] at z'
      exact ⟨z', by rw [hl]; simpa using l⟩
    · rw [List.getElem?_append_right (Nat.le_of_not_lt l)] at z'
      rw [List.getElem?_replicate] at z'
      split at z' <;> cases z'
  have keyσ : ∀ {i : Nat}, i < vs.length → (vs.map some ++ List.replicate m none)[i]? = (vs.map some)[i]? := fun l => List.getElem?_append_left (by simpa using l)
  have q : RLw (G0 K cs B H f0 vs) [] (stIn args m ob) (vs.map some ++ List.replicate m none) H' _ := r.reix (p' := []) (s' := stIn args m ob) (σ' := vs.map some ++ List.replicate m none) id (fun x v w z => by
    cases x with
    | pd j =>
      have z' : ([] : Pd)[j]? = some (v, Hd.val w) := z
      simp at z'
    | sl i =>
      obtain ⟨z1, z2⟩ := z
      obtain ⟨k1, k2⟩ := key z2
      exact ⟨w, ⟨by rw [keyσ k2] at z1; exact z1, k1⟩, rfl, rfl⟩) (fun x y _ _ _ _ _ _ _ e => e) ⟨fun j v i z => by simp at z, by simp [stIn, hl], fun i w z => by
      obtain ⟨k1, k2⟩ := key z
      obtain ⟨v, e⟩ := r.wf.slv i w k1
      exact ⟨v, by rw [keyσ k2]; exact e⟩, fun i w z l => by
      obtain ⟨k1, k2⟩ := key z
      obtain ⟨v, e1, e2⟩ := r.wf.lent i w k1 l
      exact ⟨v, e1, by rw [keyσ k2]; exact e2⟩, trivial⟩
  exact ⟨_, q.own, q.emp, q.dis, q.nod, q.nb, q.kp, q.tab, q.bd, q.fd, fun dd fs e => (by cases e), ⟨fun j v i z => by simp at z, q.wf.len, q.wf.slv, q.wf.lent, trivial⟩⟩
/-- at a def's end: what it hands back, what stands in what was lent -/
theorem RLw.out {cv : List Nat} {F : Ix → List Addr} {p : Pd} (r : RLw ⟨K, cs, B, H, f0, vs, cv, none, fun _ => True⟩ p s σ H' F) (hl : vs.length = args.length) (pd : Nat → Ix) (p' : Pd) (ns : NoS p')
    (top : ∀ (j : Nat) v w, p'[j]? = some (v, .val w) → Rt p s σ (pd j) v w) (ip : ∀ j k, j < p'.length → k < p'.length → pd j = pd k → j = k) (nl : ∀ (j i : Nat) w, j < p'.length → pd j = .sl i → s.sl[i]? = some (some w) → w.l = false) :
    RLw (G0 K cs B H f0 vs) p' ⟨stOut args s.sl, s.ob⟩ (vs.map some) H' (Fr' p' ⟨stOut args s.sl, s.ob⟩ (vs.map some) F fun x => match x with | .pd j => pd j | .sl i => .sl i) := by
  have slot : ∀ {i : Nat} {w : Vl}, (stOut args s.sl)[i]? = some (some w) → ∃ v, (vs.map some)[i]? = some (some v) ∧ vs[i]? = some v ∧ σ[i]? = some (some v) ∧ s.sl[i]? = some (some w) ∧ w.l = true := fun {i w} z => by
    obtain ⟨h1, h2, w2, h3, h4⟩ := stOut_at z
    obtain ⟨v, e1, e2⟩ := r.wf.lent i w h1 h2
    have e1' : vs[i]? = some v := e1
    exact ⟨v, by rw [List.getElem?_map, e1']; rfl, e1', e2, h1, h2⟩
  have q := r.reix (p' := p') (s' := ⟨stOut args s.sl, s.ob⟩) (σ' := vs.map some) (fun x => match x with | .pd j => pd j | .sl i => .sl i) (fun x v w z => by
    cases x with
    | pd j => exact ⟨w, top j v w z, rfl, rfl⟩
    | sl i =>
      obtain ⟨z1, z2⟩ := z
      obtain ⟨v', e1, e2, e3, e4, _⟩ := slot z2
      rw [e1] at z1
      cases z1
      exact ⟨w, ⟨e3, e4⟩, rfl, rfl⟩) (fun x y v1 v2 w1 w2 z1 z2 _ e => by
    have lt : ∀ {j v' w'}, Rt p' ⟨stOut args s.sl, s.ob⟩ (vs.map some) (.pd j) v' w' → j < p'.length := fun {j v' w'} z => (List.getElem?_eq_some_iff.mp (show p'[j]? = some (v', .val w') from z)).1
    cases x with
    | pd j => cases y with
      | pd k => rw [ip j k (lt z1) (lt z2) e]
      | sl i =>
        obtain ⟨v', _, _, _, e4, e5⟩ := slot z2.2
        have := nl j i w2 (lt z1) e e4
        rw [this] at e5
        cases e5
    | sl i => cases y with
      | sl k => exact e
      | pd k =>
        obtain ⟨v', _, _, _, e4, e5⟩ := slot z1.2
        have := nl k i w1 (lt z2) e.symm e4
        rw [this] at e5
        cases e5) ⟨fun j v i z => (ns j v i z).elim, by simp [stOut_len, hl], fun i w z => by
      obtain ⟨v, e1, _⟩ := slot z
      exact ⟨v, e1⟩, fun i w z _ => by
      obtain ⟨v, e1, e2, _⟩ := slot z
      exact ⟨v, e2, e1⟩, trivial⟩
  exact ⟨q.own, q.emp, q.dis, q.nod, q.nb, q.kp, q.tab, q.bd, q.fd, fun dd fs e => (by cases e), ⟨fun j v i z => (ns j v i z).elim, q.wf.len, q.wf.slv, q.wf.lent, trivial⟩⟩
/-- a body keeps the promise by its function -/
theorem body_ok {cv : List Nat} {W : WX} {t : TS} {f : FS} (ht : ∀ (B : Addr → Prop) (H : Hp) (f0 : List Addr) (vs : List V), SemS ⟨K, cs, B, H, f0, vs, cv, none, fun _ => True⟩ W t f) (hW : ∀ cls d σ H, E cls d H → W cls d σ H) (hs : spF K cs n (fDef m f) vs H Q E) :
    t { nx := fun _ H' => Q .non H', rt := Q } (vs.map some ++ List.replicate m none) H := by
  obtain ⟨B, f0, args, ob, l1, l2, r, post⟩ := hs
  have hl : vs.length = args.length := l1.trans l2.symm
  refine ht B H f0 vs [] _ _ H _ (fun j v i z => by simp at z) (r.more hl m) ?_
  unfold fDef at post
  cases e : f (stIn args m ob) with
  | no =>
    rw [e] at post
    exact post
  | ex x s' =>
    rw [e] at post
    intro d σ' H' r'
    obtain ⟨F, r', x'⟩ := r'
    have q := r'.out hl (fun _ => .pd 0) [] (fun j v i z => by simp at z) (fun j v w z => by simp at z) (fun j k z => by simp at z) (fun j i w z => by simp at z)
    refine hW _ d σ' H' (post d H' ⟨_, q, ?_⟩)
    revert x'
    cases x.fs with
    | none => exact fun x => x
    | some fs =>
      refine fun ⟨dd, e1, e2, nc⟩ => ⟨dd, e1, e2, fun c => nc ?_⟩
      rcases c with c | ⟨y, c⟩
      · exact Or.inl c
      · exact Or.inr ⟨_, (Fr'_mem c).2⟩
  | ok fl s' =>
    rw [e] at post
    cases fl with
    | nx =>
      intro σ' H' r'
      have r2 := r'.pushF (d := .none) (v := .non) fun _ => .non
      obtain ⟨F, r2⟩ := r2
      exact post .non H' ⟨_, r2.out hl (fun _ => .pd 0) [(.non, .val (.f .none))] (fun j v i z => by
        cases j with
        | zero => simp at z
        | succ j => simp at z) (fun j v w z => by
        cases j with
        | zero => exact z
        | succ j => simp at z) (fun j k z1 z2 _ => by simp at z1 z2; omega) (fun j i w _ z => by cases z)⟩
    | rt h =>
      intro v σ' H' r'
      replace post : PoD (G0 K cs B H f0 vs) vs Q E (match retV s' h with
        | some w => .ok w (stOut args s'.sl) s'.ob
        | none => .no) := post
      cases q : retV s' h with
      | none =>
        rw [q] at post
        exact post.elim
      | some w =>
        rw [q] at post
        obtain ⟨F, r'⟩ := r'
        -- where the value stands
        have : ∃ x : Ix, Rt [(v, h)] s' σ' x v w ∧ ∀ i w', x = .sl i → s'.sl[i]? = some (some w') → w'.l = false := by
          unfold retV at q
          cases h with
          | val w' =>
            have q' : w' = w := by simpa using q
            subst q'
            exact ⟨.pd 0, rfl, fun i w' z => by cases z⟩
          | slot i =>
            dsimp only at q
            split at q
            · rename_i w' ew
              split at q
              · cases q
              · rename_i nl
                cases q
                refine ⟨.sl i, ⟨(r'.wf.hd 0 v i rfl).1, ew⟩, fun k w2 z e2 => ?_⟩
                cases z
                rw [ew] at e2
                cases e2
                cases z : w.l with
                | true => exact (nl z).elim
                | false => rfl
            · cases q
        obtain ⟨x, hx, nl⟩ := this
        exact post v H' ⟨_, r'.out hl (fun _ => x) [(v, .val w)] (fun j v i z => by
          cases j with
          | zero => simp at z
          | succ j => simp at z) (fun j v' w' z => by
          cases j with
          | zero =>
            have z' : (v, Hd.val w) = (v', Hd.val w') := by simpa using z
            cases z'
            exact hx
          | succ j => simp at z) (fun j k z1 z2 _ => by simp at z1 z2; omega) (fun j i w' _ z e2 => nl i w' z e2)⟩
    | bk => exact post.elim
    | ct => exact post.elim
end
end Z
/-! # a def is called -/
namespace Z
open PySem PySem.Spec PyProof.Rows L2 GxR
def argsOf (s : Sta) : List Hd → Option (List Vl)
  | [] => some []
  | h :: hs => match lookH s h, argsOf s hs with
    | some w, some ws => some (w :: ws)
    | _, _ => none
def ownAt (s : Sta) (i : Nat) : Option Vl := match s.sl[i]? with
  | some (some w) => if w.s.cp = true then none else some w
  | _ => none
/-- slots that are lent -/
def lentS (s : Sta) : List Hd → List Nat
  | [] => []
  | .slot i :: hs => if (ownAt s i).isSome = true then i :: lentS s hs else lentS s hs
  | .val _ :: hs => lentS s hs
/-- what was lent comes back -/
def backS : Sta → List Hd → List (Option Vl) → Sta
  | s, .slot i :: hs, o :: as => match ownAt s i with
    | some w0 => backS ⟨s.sl.set i (o.map fun a => ⟨a.d, a.s, w0.l⟩), s.ob⟩ hs as
    | none => backS s hs as
  | s, .val _ :: hs, _ :: as => backS s hs as
  | s, _, _ => s
def callD (g : FDef) (s : Sta) (hs : List Hd) : Rs Hd := match argsOf s hs with
  | none => .no
  | some args => if (lentS s hs).Nodup then (match g args s.ob with
    | .ok w as ob => .ok (.val w) ⟨(backS s hs as).sl, ob⟩
    | .ex e as ob => .ex e ⟨(backS s hs as).sl, ob⟩
    | .no => .no) else .no
def fCall (g : FDef) (fa : FA) : FE := fun s => (fa s).bind fun hs s1 => callD g s1 hs
section
variable {G : Fr} {p : Pd} {s : Sta} {σ : L2.St} {H H' : Hp} {F : Ix → List Addr} {v : V} {w : Vl} {h : Hd} {hs : List Hd} {vs : List V} {args : List Vl} {i j : Nat}
theorem argsOf_at : ∀ {hs : List Hd} {args : List Vl}, argsOf s hs = some args → args.length = hs.length ∧ ∀ (j : Nat) (h : Hd), hs[j]? = some h → ∃ w, args[j]? = some w ∧ lookH s h = some w
  | [], args, e => by
    cases e
    exact ⟨rfl, fun j h z => by simp at z⟩
  | h :: hs, args, e => by
    unfold argsOf at e
    split at e
    · rename_i w ws e1 e2
      cases e
      obtain ⟨l, k⟩ := argsOf_at e2
      refine ⟨congrArg (· + 1) l, fun j h' z => ?_⟩
      cases j with
      | zero =>
        have z' : h = h' := by simpa using z
        subst z'
        exact ⟨w, rfl, e1⟩
      | succ j =>
        obtain ⟨w', h1, h2⟩ := k j h' (by simpa using z)
        exact ⟨w', by simpa using h1, h2⟩
    · cases e
theorem ownAt_some (e : ownAt s i = some w) : s.sl[i]? = some (some w) ∧ ¬ w.s.cp = true := by
  unfold ownAt at e
  split at e
  · rename_i w' e1
    split at e
    · cases e
    · rename_i n
      cases e
      exact ⟨e1, n⟩
  · cases e
theorem ownAt_of (e : s.sl[i]? = some (some w)) (n : ¬ w.s.cp = true) : ownAt s i = some w := by
  unfold ownAt
  rw [e]
  exact if_neg n
theorem lentS_mem : ∀ {hs : List Hd} {j : Nat}, hs[j]? = some (.slot i) → (ownAt s i).isSome = true → i ∈ lentS s hs
  | [], j, h, _ => by simp at h
  | .slot k :: hs, j, h, o => by
    cases j with
    | zero =>
      have e : k = i := by simpa using h
      subst e
      unfold lentS
      rw [if_pos o]
      exact List.mem_cons_self
    | succ j =>
      have m := lentS_mem (hs := hs) (by simpa using h) o
      unfold lentS
      split
      · exact List.mem_cons_of_mem _ m
      · exact m
  | .val _ :: hs, j, h, o => by
    cases j with
    | zero => simp at h
    | succ j => exact lentS_mem (hs := hs) (by simpa using h) o
theorem lentS_inj : ∀ {hs : List Hd} {j k : Nat}, (lentS s hs).Nodup → hs[j]? = some (.slot i) → hs[k]? = some (.slot i) → (ownAt s i).isSome = true → j = k
  | [], j, k, _, h, _, _ => by simp at h
  | .val _ :: hs, j, k, n, h1, h2, o => by
    cases j with
    | zero => simp at h1
    | succ j => cases k with
      | zero => simp at h2
      | succ k => rw [lentS_inj (hs := hs) (j := j) (k := k) n (by simpa using h1) (by simpa using h2) o]
  | .slot m :: hs, j, k, n, h1, h2, o => by
    unfold lentS at n
    have n' : (lentS s hs).Nodup := by
      split at n
      · exact (List.nodup_cons.mp n).2
      · exact n
    cases j with
    | zero => cases k with
      | zero => rfl
      | succ k =>
        have e : m = i := by simpa using h1
        subst e
        rw [if_pos o] at n
        exact ((List.nodup_cons.mp n).1 (lentS_mem (hs := hs) (by simpa using h2) o)).elim
    | succ j => cases k with
      | zero =>
        have e : m = i := by simpa using h2
        subst e
        rw [if_pos o] at n
        exact ((List.nodup_cons.mp n).1 (lentS_mem (hs := hs) (by simpa using h1) o)).elim
      | succ k => rw [lentS_inj (hs := hs) (j := j) (k := k) n' (by simpa using h1) (by simpa using h2) o]
/-- behind the call: a slot is as it was, or holds what has come back -/
theorem backS_at : ∀ {hs : List Hd} {s : Sta} {as : List (Option Vl)} {w' : Vl}, (lentS s hs).Nodup → as.length = hs.length → (backS s hs as).sl[i]? = some (some w') →
    ((∀ j : Nat, hs[j]? = some (Hd.slot i) → ownAt s i = none) ∧ s.sl[i]? = some (some w')) ∨ ∃ (j : Nat) (w0 a : Vl), hs[j]? = some (.slot i) ∧ ownAt s i = some w0 ∧ as[j]? = some (some a) ∧ w' = ⟨a.d, a.s, w0.l⟩
  | [], s, as, w', _, _, e => Or.inl ⟨fun j z => by simp at z, by
    have e' : s.sl[i]? = some (some w') := by
      cases as <;> exact e
    exact e'⟩
  | .val x :: hs, s, [], w', _, l, _ => by cases l
  | .slot x :: hs, s, [], w', _, l, _ => by cases l
  | .val x :: hs, s, o :: as, w', n, l, e => by
    rcases backS_at (hs := hs) (as := as) n (by simpa using l) e with ⟨h1, h2⟩ | ⟨j, w0, a, h1, h2, h3, h4⟩
    · refine Or.inl ⟨fun j z => ?_, h2⟩
      cases j with
      | zero => simp at z
      | succ j => exact h1 j (by simpa using z)
    · exact Or.inr ⟨j + 1, w0, a, by simpa using h1, h2, by simpa using h3, h4⟩
  | .slot m :: hs, s, o :: as, w', n, l, e => by
    have l' : as.length = hs.length := by simpa using l
    cases q : ownAt s m with
    | none =>
      have e' : (backS s hs as).sl[i]? = some (some w') := by
        unfold backS at e
        rw [q] at e
        exact e
      have n' : (lentS s hs).Nodup := by
        unfold lentS at n
        rw [q] at n
        exact n
      rcases backS_at (hs := hs) n' l' e' with ⟨h1, h2⟩ | ⟨j, w0, a, h1, h2, h3, h4⟩
      · refine Or.inl ⟨fun j z => ?_, h2⟩
        cases j with
        | zero =>
          have e2 : m = i := by simpa using z
          rw [← e2]
          exact q
        | succ j => exact h1 j (by simpa using z)
      · exact Or.inr ⟨j + 1, w0, a, by simpa using h1, h2, by simpa using h3, h4⟩
    | some w0 =>
      obtain ⟨at_m, _⟩ := ownAt_some q
      obtain ⟨s1, hs1⟩ : ∃ s1 : Sta, s1 = ⟨s.sl.set m (o.map fun a => ⟨a.d, a.s, w0.l⟩), s.ob⟩ := ⟨_, rfl⟩
      have e' : (backS s1 hs as).sl[i]? = some (some w') := by
        unfold backS at e
        rw [q] at e
        rw [hs1]
        exact e
      have n0 : m ∉ lentS s hs ∧ (lentS s hs).Nodup := by
        unfold lentS at n
        rw [q] at n
        exact List.nodup_cons.mp n
      have off : ∀ k, k ≠ m → ownAt s1 k = ownAt s k := fun k hk => by
        unfold ownAt
        rw [hs1]
        have : (s.sl.set m (o.map fun a => (⟨a.d, a.s, w0.l⟩ : Vl)))[k]? = s.sl[k]? := List.getElem?_set_ne fun z => hk z.symm
        rw [this]
      have nom : ∀ j : Nat, hs[j]? ≠ some (Hd.slot m) := fun j z => n0.1 (lentS_mem z (by rw [q]; rfl))
      have same : ∀ {l : List Hd}, (∀ j : Nat, l[j]? ≠ some (Hd.slot m)) → lentS s1 l = lentS s l := by
        intro l hl
        induction l with
        | nil => rfl
        | cons x l ih =>
          have ih' := ih fun j z => hl (j + 1) (by simpa using z)
          cases x with
          | val _ => exact ih'
          | slot k =>
            have hk : k ≠ m := fun z => hl 0 (by rw [z]; rfl)
            unfold lentS
            rw [off k hk, ih']
      rcases backS_at (hs := hs) (s := s1) (by rw [same nom]; exact n0.2) l' e' with ⟨h1, h2⟩ | ⟨j, w1, a, h1, h2, h3, h4⟩
      · rw [hs1] at h2
        rcases slset h2 with ⟨rfl, h3⟩ | ⟨ne, h3⟩
        · cases o with
          | none => cases h3
          | some a =>
            injection h3 with h3
            subst h3
            exact Or.inr ⟨0, w0, a, rfl, q, rfl, rfl⟩
        · refine Or.inl ⟨fun j z => ?_, h3⟩
          cases j with
          | zero =>
            have e2 : m = i := by simpa using z
            exact (ne e2.symm).elim
          | succ j => rw [← off i ne]; exact h1 j (by simpa using z)
      · have ne : i ≠ m := fun z => nom j (by rw [← z]; exact h1)
        rw [off i ne] at h2
        exact Or.inr ⟨j + 1, w1, a, by simpa using h1, h2, by simpa using h3, h4⟩
theorem backS_len : ∀ {hs : List Hd} {s : Sta} {as : List (Option Vl)}, (backS s hs as).sl.length = s.sl.length
  | [], s, as => by cases as <;> rfl
  | .val _ :: hs, s, [] => rfl
  | .slot _ :: hs, s, [] => rfl
  | .val _ :: hs, s, o :: as => backS_len (hs := hs) (s := s) (as := as)
  | .slot m :: hs, s, o :: as => by
    unfold backS
    split
    · rw [backS_len (hs := hs) (as := as)]
      simp
    · exact backS_len (hs := hs) (s := s) (as := as)
/-- where an argument stands -/
def ax (p : Pd) (hs : List Hd) (j : Nat) : Ix := match hs[j]? with
  | some (.slot i) => .sl i
  | _ => .pd (p.length + j)
def f0Of (F : Ix → List Addr) (p : Pd) (hs : List Hd) (args : List Vl) : List Addr := (List.range hs.length).flatMap fun j => match args[j]? with
  | some w => if Sh.cp w.s = true then [] else F (ax p hs j)
  | none => []
theorem f0_mem {a : Addr} (hl : args.length = hs.length) : a ∈ f0Of F p hs args ↔ ∃ (j : Nat) (w : Vl), args[j]? = some w ∧ ¬ w.s.cp = true ∧ a ∈ F (ax p hs j) := by
  unfold f0Of
  rw [List.mem_flatMap]
  constructor
  · rintro ⟨j, _, h⟩
    split at h
    · rename_i w e
      split at h
      · cases h
      · rename_i n
        exact ⟨j, w, e, n, h⟩
    · cases h
  · rintro ⟨j, w, e, n, h⟩
    refine ⟨j, List.mem_range.mpr (by rw [← hl]; exact (List.getElem?_eq_some_iff.mp e).1), ?_⟩
    rw [e]
    dsimp only
    rw [if_neg n]
    exact h
theorem zip_at {vs : List V} {hs : List Hd} (l : vs.length = hs.length) {p : Pd} {j : Nat} {v : V} {h : Hd} (e1 : vs[j]? = some v) (e2 : hs[j]? = some h) : (p ++ vs.zip hs)[p.length + j]? = some (v, h) := by
  rw [List.getElem?_append_right (Nat.le_add_right _ _), Nat.add_sub_cancel_left, List.getElem?_zip_eq_some]
  exact ⟨e1, e2⟩
/-- an argument is a root -/
theorem RLw.arg (r : RLw G (p ++ vs.zip hs) s σ H F) (l : vs.length = hs.length) (ha : argsOf s hs = some args) (e : vs[j]? = some v) (e2 : args[j]? = some w) : Rt (p ++ vs.zip hs) s σ (ax p hs j) v w := by
  obtain ⟨la, k⟩ := argsOf_at ha
  have lt : j < hs.length := by
    rw [← l]
    exact (List.getElem?_eq_some_iff.mp e).1
  obtain ⟨w', h1, h2⟩ := k j hs[j] (List.getElem?_eq_getElem lt)
  rw [e2] at h1
  cases h1
  have at_ := zip_at l (p := p) e (List.getElem?_eq_getElem lt)
  unfold ax
  rw [List.getElem?_eq_getElem lt]
  cases q : hs[j] with
  | val w' =>
    rw [q] at h2 at_
    rw [(lookH_val h2).1] at at_
    exact at_
  | slot i =>
    rw [q] at h2 at_
    have hv := (r.wf.hd _ v i at_).1
    exact ⟨hv, (lookH_slot h2).1⟩
/-- the callee's heap -/
theorem RLw.enter (r : RLw G (p ++ vs.zip hs) s σ H F) (l : vs.length = hs.length) (ha : argsOf s hs = some args) (nd : (lentS s hs).Nodup) :
    RL (G0 G.K G.cs (fun a => CF G F a ∧ a ∉ f0Of F p hs args) H (f0Of F p hs args) vs) [] (stIn args 0 s.ob) (vs.map some) H := by
  obtain ⟨la, _⟩ := argsOf_at ha
  have mem := fun a => f0_mem (F := F) (p := p) (a := a) la
  have lv : vs.length = args.length := l.trans la.symm
  have at_in : ∀ {j : Nat} {w' : Vl}, (stIn args 0 s.ob).sl[j]? = some (some w') → ∃ w v, args[j]? = some w ∧ w' = w.enter ∧ vs[j]? = some v := fun {j w'} z => by
    have z' : (args.map (fun w => some w.enter))[j]? = some (some w') := by
      have e : (stIn args 0 s.ob).sl = args.map (fun w => some w.enter) := List.append_nil _
      rw [e] at z
      exact z
    rw [List.getElem?_map] at z'
    cases q : args[j]? with
    | none =>
      rw [q] at z'
      cases z'
    | some w =>
      rw [q] at z'
      have z2 : some w.enter = some w' := by simpa using z'
      have lt : j < vs.length := by
        rw [lv]
        exact (List.getElem?_eq_some_iff.mp q).1
      exact ⟨w, vs[j], rfl, (Option.some.inj z2).symm, List.getElem?_eq_getElem lt⟩
  let F0 : Ix → List Addr := fun x => match x with
    | .pd _ => []
    | .sl j => match args[j]? with
      | some w => if Sh.cp w.s = true then [] else F (ax p hs j)
      | none => []
  have memF0 : ∀ {x a}, a ∈ F0 x → ∃ (j : Nat) (w : Vl), x = .sl j ∧ args[j]? = some w ∧ ¬ w.s.cp = true ∧ a ∈ F (ax p hs j) := fun {x a} h => by
    cases x with
    | pd j => cases h
    | sl j =>
      have h' : a ∈ (match args[j]? with
        | some w => if Sh.cp w.s = true then [] else F (ax p hs j)
        | none => []) := h
      split at h'
      · rename_i w e
        split at h'
        · cases h'
        · rename_i n
          exact ⟨j, w, rfl, e, n, h'⟩
      · cases h'
  have ofF0 : ∀ {j : Nat} {w : Vl}, args[j]? = some w → ¬ w.s.cp = true → F0 (.sl j) = F (ax p hs j) := fun {j w} e n => by
    show (match args[j]? with
        | some w => if Sh.cp w.s = true then [] else F (ax p hs j)
        | none => []) = _
    rw [e]
    exact if_neg n
  have same : ∀ a, CF (G0 G.K G.cs (fun a => CF G F a ∧ a ∉ f0Of F p hs args) H (f0Of F p hs args) vs) F0 a ↔ CF G F a := fun a => by
    constructor
    · rintro (c | ⟨x, c⟩)
      · exact c.1
      · obtain ⟨j, w, _, _, _, h⟩ := memF0 c
        exact Or.inr ⟨_, h⟩
    · intro c
      by_cases h : a ∈ f0Of F p hs args
      · obtain ⟨j, w, e, n, h2⟩ := (mem a).mp h
        exact Or.inr ⟨.sl j, by rw [ofF0 e n]; exact h2⟩
      · exact Or.inl ⟨c, h⟩
  have axinj : ∀ {j k : Nat} {w w' : Vl}, args[j]? = some w → args[k]? = some w' → ¬ w.s.cp = true → ax p hs j = ax p hs k → j = k := fun {j k w w'} e1 e2 n e => by
    have lj : j < hs.length := by rw [← la]; exact (List.getElem?_eq_some_iff.mp e1).1
    have lk : k < hs.length := by rw [← la]; exact (List.getElem?_eq_some_iff.mp e2).1
    obtain ⟨w1, h1, h2⟩ := (argsOf_at ha).2 j hs[j] (List.getElem?_eq_getElem lj)
    rw [e1] at h1
    cases h1
    unfold ax at e
    rw [List.getElem?_eq_getElem lj, List.getElem?_eq_getElem lk] at e
    cases q1 : hs[j] <;> cases q2 : hs[k] <;> rw [q1, q2] at e
    · injection e with e
      omega
    · cases e
    · cases e
    · injection e with e
      rename_i i1 i2
      subst e
      rw [q1] at h2
      refine lentS_inj nd (by rw [List.getElem?_eq_getElem lj, q1]) (by rw [List.getElem?_eq_getElem lk, q2]) ?_
      rw [ownAt_of (lookH_slot h2).1 n]
      rfl
  refine ⟨F0, fun x v w' z => ?_, fun x n => ?_, fun x y a hx hy => ?_, fun x => ?_, fun x a hx => ?_, fun a o e _ _ => e, fun P hP => ⟨⟨Or.inl (r.tab P hP).1, fun h => ?_⟩, (r.tab P hP).2⟩, fun a b => r.cthere b.1, fun a h => ?_, fun dd fs e => (by cases e), ⟨fun j v i z => by simp at z, by simp [stIn, lv], fun i w' z => ?_, fun i w' z l => ?_, trivial⟩⟩
  · cases x with
    | pd j =>
      have z' : ([] : Pd)[j]? = some (v, Hd.val w') := z
      simp at z'
    | sl j =>
      obtain ⟨z1, z2⟩ := z
      obtain ⟨w, v', e1, rfl, e3⟩ := at_in z2
      rw [List.getElem?_map, e3] at z1
      cases z1
      have o := r.own _ v w (r.arg l ha e3 e1)
      have m : Mv (CF G F) H (CF (G0 G.K G.cs (fun a => CF G F a ∧ a ∉ f0Of F p hs args) H (f0Of F p hs args) vs) F0) H := ⟨fun a o e n => ⟨e, fun c => n ((same a).mp c)⟩⟩
      by_cases hz : w.s.cp = true
      · have e0 : F (ax p hs j) = [] := o.cp hz
        have e00 : F0 (.sl j) = [] := by
          show (match args[j]? with
            | some w => if Sh.cp w.s = true then [] else F (ax p hs j)
            | none => []) = _
          rw [e1]
          exact if_pos hz
        rw [e00, ← e0]
        exact o.mv m fun _ _ => rfl
      · rw [ofF0 e1 hz]
        exact o.mv m fun _ _ => rfl
  · cases q : F0 x with
    | nil => exact (n q).elim
    | cons a f =>
      obtain ⟨j, w, rfl, e, ns, _⟩ := memF0 (x := x) (a := a) (by rw [q]; exact List.mem_cons_self)
      have lt : j < vs.length := by rw [lv]; exact (List.getElem?_eq_some_iff.mp e).1
      refine ⟨vs[j], w.enter, by rw [List.getElem?_map, List.getElem?_eq_getElem lt]; rfl, ?_⟩
      show ((args.map (fun w => some w.enter)) ++ List.replicate 0 none)[j]? = some (some w.enter)
      rw [show List.replicate 0 (none : Option Vl) = [] from rfl, List.append_nil, List.getElem?_map, e]
      rfl
  · obtain ⟨j, w, rfl, e1, n1, h1⟩ := memF0 hx
    obtain ⟨k, w', rfl, e2, n2, h2⟩ := memF0 hy
    rw [axinj e1 e2 n1 (r.dis _ _ a h1 h2)]
  · cases x with
    | pd j => exact List.nodup_nil
    | sl j =>
      show (match args[j]? with
        | some w => if Sh.cp w.s = true then [] else F (ax p hs j)
        | none => []).Nodup
      split
      · split
        · exact List.nodup_nil
        · exact r.nod _
      · exact List.nodup_nil
  · obtain ⟨j, w, rfl, e1, n1, h1⟩ := memF0 hx
    have m := (mem a).mpr ⟨j, w, e1, n1, h1⟩
    exact ⟨fun b => b.2 m, Or.inl m⟩
  · obtain ⟨j, w, _, _, h1⟩ := (mem P).mp h
    exact (r.nb _ P h1).1 (r.tab P hP).1
  · obtain ⟨j, w, _, _, h1⟩ := (mem a).mp h
    exact ⟨r.ncs h1, r.there h1⟩
  · obtain ⟨w, v, _, _, e3⟩ := at_in z
    exact ⟨v, by rw [List.getElem?_map, e3]; rfl⟩
  · obtain ⟨w, v, _, _, e3⟩ := at_in z
    exact ⟨v, e3, by rw [List.getElem?_map, e3]; rfl⟩
open Classical in
/-- the footprints behind a call -/
noncomputable def F2 (s : Sta) (p : Pd) (hs : List Hd) (F F1 : Ix → List Addr) : Ix → List Addr := fun x => match x with
  | .pd j => if j < p.length then F (.pd j) else F1 (.pd (j - p.length))
  | .sl i => if h : ∃ j : Nat, hs[j]? = some (Hd.slot i) ∧ (ownAt s i).isSome = true then F1 (.sl (Classical.choose h)) else F (.sl i)
/-- behind the call -/
theorem RLw.leave {p' : Pd} {as : List (Option Vl)} {ob : List Ob1} {F1 : Ix → List Addr} (r : RLw G (p ++ vs.zip hs) s σ H F) (l : vs.length = hs.length) (ha : argsOf s hs = some args) (nd : (lentS s hs).Nodup) (ns : NoS p')
    (r1 : RLw (G0 G.K G.cs (fun a => CF G F a ∧ a ∉ f0Of F p hs args) H (f0Of F p hs args) vs) p' ⟨as, ob⟩ (vs.map some) H' F1) :
    RLw G (p ++ p') ⟨(backS s hs as).sl, ob⟩ σ H' (F2 s p hs F F1) ∧ ∀ a, CF G (F2 s p hs F F1) a → CF (G0 G.K G.cs (fun a => CF G F a ∧ a ∉ f0Of F p hs args) H (f0Of F p hs args) vs) F1 a := by
  obtain ⟨la, lk⟩ := argsOf_at ha
  have mem := fun a => f0_mem (F := F) (p := p) (a := a) la
  have lv : vs.length = args.length := l.trans la.symm
  have las : as.length = hs.length := by
    have := r1.wf.len
    rw [List.length_map] at this
    rw [← l]
    exact this.symm
  -- an old root that was not lent: its footprint is none of what was lent
  have offArg : ∀ {x a}, a ∈ F x → (∀ (j : Nat) (w : Vl), args[j]? = some w → ¬ w.s.cp = true → ax p hs j ≠ x) → a ∉ f0Of F p hs args := fun {x a} h n m => by
    obtain ⟨j, w, e, ns, h2⟩ := (mem a).mp m
    exact n j w e ns (r.dis _ _ a h2 h)
  have ownArg : ∀ {j i : Nat} {w : Vl}, args[j]? = some w → ¬ w.s.cp = true → hs[j]? = some (.slot i) → (ownAt s i) = some w := fun {j i w} e n h => by
    obtain ⟨w1, h1, h2⟩ := lk j _ h
    rw [e] at h1
    cases h1
    exact ownAt_of (lookH_slot h2).1 n
  have F2pd : ∀ {j}, j < p.length → F2 s p hs F F1 (.pd j) = F (.pd j) := fun h => if_pos h
  have F2pd' : ∀ {j}, F2 s p hs F F1 (.pd (p.length + j)) = F1 (.pd j) := fun {j} => by
    show (if p.length + j < p.length then F (.pd (p.length + j)) else F1 (.pd (p.length + j - p.length))) = _
    rw [if_neg (by omega), Nat.add_sub_cancel_left]
  have F2no : ∀ {i}, (¬ ∃ j : Nat, hs[j]? = some (Hd.slot i) ∧ (ownAt s i).isSome = true) → F2 s p hs F F1 (.sl i) = F (.sl i) := fun h => dif_neg h
  have F2yes : ∀ {i j}, hs[j]? = some (.slot i) → (ownAt s i).isSome = true → F2 s p hs F F1 (.sl i) = F1 (.sl j) := fun {i j} h o => by
    have q : ∃ j : Nat, hs[j]? = some (Hd.slot i) ∧ (ownAt s i).isSome = true := ⟨j, h, o⟩
    have e : F2 s p hs F F1 (.sl i) = F1 (.sl (Classical.choose q)) := dif_pos q
    rw [e, lentS_inj nd (Classical.choose_spec q).1 h o]
  -- each footprint is an old one's, that was not lent, or one that has come back
  have cls : ∀ {x a}, a ∈ F2 s p hs F F1 x → (∃ x0, a ∈ F x0 ∧ a ∉ f0Of F p hs args) ∨ ∃ y, a ∈ F1 y := fun {x a} h => by
    cases x with
    | pd j =>
      by_cases hj : j < p.length
      · rw [F2pd hj] at h
        refine Or.inl ⟨_, h, offArg h fun k w e n z => ?_⟩
        unfold ax at z
        split at z
        · cases z
        · injection z with z
          omega
      · obtain ⟨m, rfl⟩ : ∃ m, j = p.length + m := ⟨j - p.length, by omega⟩
        rw [F2pd'] at h
        exact Or.inr ⟨_, h⟩
    | sl i =>
      by_cases hi : ∃ j : Nat, hs[j]? = some (Hd.slot i) ∧ (ownAt s i).isSome = true
      · obtain ⟨j, h1, h2⟩ := hi
        rw [F2yes h1 h2] at h
        exact Or.inr ⟨_, h⟩
      · rw [F2no hi] at h
        refine Or.inl ⟨_, h, offArg h fun k w e n z => hi ?_⟩
        unfold ax at z
        split at z
        · rename_i i2 e2
          injection z with z
          subst z
          exact ⟨k, e2, by rw [ownArg e n e2]; rfl⟩
        · cases z
  have keepF : ∀ {a}, (∃ x0, a ∈ F x0 ∧ a ∉ f0Of F p hs args) → H' a = H a := fun {a} ⟨x0, h, n⟩ => by
    obtain ⟨o, e⟩ := r.there h
    rw [e]
    exact r1.kp a o e n (r.ncs h)
  have le : ∀ a, CF G (F2 s p hs F F1) a → CF (G0 G.K G.cs (fun a => CF G F a ∧ a ∉ f0Of F p hs args) H (f0Of F p hs args) vs) F1 a := fun a c => by
    rcases c with c | ⟨x, c⟩
    · refine Or.inl ⟨Or.inl c, fun m => ?_⟩
      obtain ⟨j, w, _, _, h1⟩ := (mem a).mp m
      exact (r.nb _ a h1).1 c
    · rcases cls c with ⟨x0, h, n⟩ | ⟨y, h⟩
      · exact Or.inl ⟨Or.inr ⟨x0, h⟩, n⟩
      · exact Or.inr ⟨y, h⟩
  have m0 : Mv (CF G F) H (CF G (F2 s p hs F F1)) H' := ⟨fun a o e n => by
    have nf : a ∉ f0Of F p hs args := fun m => by
      obtain ⟨j, w, _, _, h1⟩ := (mem a).mp m
      exact n (Or.inr ⟨_, h1⟩)
    refine ⟨r1.kp a o e nf fun z => n (Or.inl (r.tab a z).1), fun c => ?_⟩
    rcases le a c with c | ⟨y, c⟩
    · exact n c.1
    · rcases (r1.nb y a c).2 with z | z
      · exact nf z
      · have z' : H a = none := z
        rw [e] at z'
        cases z'⟩
  have m1 : Mv (CF (G0 G.K G.cs (fun a => CF G F a ∧ a ∉ f0Of F p hs args) H (f0Of F p hs args) vs) F1) H' (CF G (F2 s p hs F F1)) H' := ⟨fun a o e n => ⟨e, fun c => n (le a c)⟩⟩
  have nbB : ∀ {y a}, a ∈ F1 y → (∃ x0, a ∈ F x0 ∧ a ∉ f0Of F p hs args) → False := fun {y a} h ⟨x0, h1, n⟩ => (r1.nb y a h).1 ⟨Or.inr ⟨x0, h1⟩, n⟩
  refine ⟨⟨fun x v w z => ?_, fun x n => ?_, fun x y a hx hy => ?_, fun x => ?_, fun x a hx => ?_, fun a o e n1 n2 => ?_, fun P hP => ⟨(r.tab P hP).1, (r1.tab P hP).2⟩, fun a b => ?_, fun a hf => ?_, fun dd fs e => m0.mv dd _ (r.xcl dd fs e).1 (r.xcl dd fs e).2, ⟨fun j v i z => ?_, ?_, fun i w z => ?_, fun i w z hlen => ?_, r.wf.xs⟩⟩, le⟩
  · cases x with
    | pd j =>
      have z' : (p ++ p')[j]? = some (v, .val w) := z
      by_cases hj : j < p.length
      · rw [List.getElem?_append_left hj] at z'
        rw [F2pd hj]
        have old : Rt (p ++ vs.zip hs) s σ (.pd j) v w := by
          show (p ++ vs.zip hs)[j]? = some (v, .val w)
          rw [List.getElem?_append_left hj]
          exact z'
        refine (r.own _ v w old).mv m0 fun a h => keepF ?_
        rcases cls (x := .pd j) (a := a) (by rw [F2pd hj]; exact h) with q | ⟨y, q⟩
        · exact q
        · refine ⟨_, h, offArg h fun k w e n z => ?_⟩
          unfold ax at z
          split at z
          · cases z
          · injection z with z
            omega
      · obtain ⟨k, rfl⟩ : ∃ k, j = p.length + k := ⟨j - p.length, by omega⟩
        rw [List.getElem?_append_right (Nat.le_add_right _ _), Nat.add_sub_cancel_left] at z'
        rw [F2pd']
        exact (r1.own (.pd k) v w z').mv m1 fun _ _ => rfl
    | sl i =>
      obtain ⟨z1, z2⟩ := z
      rcases backS_at nd las z2 with ⟨h1, h2⟩ | ⟨j, w0, a, h1, h2, h3, rfl⟩
      · have hi : ¬ ∃ j : Nat, hs[j]? = some (Hd.slot i) ∧ (ownAt s i).isSome = true := fun ⟨j, q1, q2⟩ => by
          rw [h1 j q1] at q2
          cases q2
        rw [F2no hi]
        refine (r.own (.sl i) v w ⟨z1, h2⟩).mv m0 fun a h => keepF ⟨_, h, offArg h fun k w e n z => hi ?_⟩
        unfold ax at z
        split at z
        · rename_i i2 e2
          injection z with z
          subst z
          exact ⟨k, e2, by rw [ownArg e n e2]; rfl⟩
        · cases z
      · rw [F2yes h1 (by rw [h2]; rfl)]
        have lt : j < vs.length := by
          rw [l]
          exact (List.getElem?_eq_some_iff.mp h1).1
        have at_ := zip_at l (p := p) (List.getElem?_eq_getElem lt) h1
        have e1 := (r.wf.hd _ _ i at_).1
        rw [e1] at z1
        cases z1
        exact (r1.own (.sl j) vs[j] a ⟨by rw [List.getElem?_map, List.getElem?_eq_getElem lt]; rfl, h3⟩).mv m1 fun _ _ => rfl
  · cases x with
    | pd j =>
      by_cases hj : j < p.length
      · rw [F2pd hj] at n
        obtain ⟨v, w, q⟩ := r.emp _ n
        have q' : (p ++ vs.zip hs)[j]? = some (v, .val w) := q
        rw [List.getElem?_append_left hj] at q'
        exact ⟨v, w, by show (p ++ p')[j]? = _; rw [List.getElem?_append_left hj]; exact q'⟩
      · obtain ⟨k, rfl⟩ : ∃ k, j = p.length + k := ⟨j - p.length, by omega⟩
        rw [F2pd'] at n
        obtain ⟨v, w, q⟩ := r1.emp _ n
        have q' : p'[k]? = some (v, .val w) := q
        exact ⟨v, w, by show (p ++ p')[p.length + k]? = _; rw [List.getElem?_append_right (Nat.le_add_right _ _), Nat.add_sub_cancel_left]; exact q'⟩
    | sl i =>
      -- a footprint that is not empty belongs to a slot that holds something
      by_cases hi : ∃ j : Nat, hs[j]? = some (Hd.slot i) ∧ (ownAt s i).isSome = true
      · obtain ⟨j, h1, h2⟩ := hi
        rw [F2yes h1 h2] at n
        obtain ⟨v, w, q⟩ := r1.emp _ n
        obtain ⟨q1, q2⟩ := q
        have q2' : as[j]? = some (some w) := q2
        obtain ⟨w0, e0⟩ := Option.isSome_iff_exists.mp h2
        have lt : j < vs.length := by
          rw [l]
          exact (List.getElem?_eq_some_iff.mp h1).1
        have at_ := zip_at l (p := p) (List.getElem?_eq_getElem lt) h1
        have e1 := (r.wf.hd _ _ i at_).1
        refine ⟨vs[j], ⟨w.d, w.s, w0.l⟩, e1, ?_⟩
        -- what stands in the slot
        have len := backS_len (hs := hs) (s := s) (as := as)
        have hlt : i < s.sl.length := (List.getElem?_eq_some_iff.mp (ownAt_some e0).1).1
        have key : ∀ {hs : List Hd} {s : Sta} {as : List (Option Vl)} {j : Nat}, (lentS s hs).Nodup → hs[j]? = some (.slot i) → ownAt s i = some w0 → as[j]? = some (some w) → (backS s hs as).sl[i]? = some (some ⟨w.d, w.s, w0.l⟩) := by
          intro hs
          induction hs with
          | nil => intro s as j _ h; simp at h
          | cons x hs ih =>
            intro s as j nd h1 e0 h3
            cases as with
            | nil => simp at h3
            | cons o as =>
              cases x with
              | val y =>
                cases j with
                | zero => simp at h1
                | succ j => exact ih (s := s) (as := as) (j := j) nd (by simpa using h1) e0 (by simpa using h3)
              | slot m =>
                cases j with
                | zero =>
                  have e2 : m = i := by simpa using h1
                  subst e2
                  have e3 : o = some w := by simpa using h3
                  subst e3
                  unfold backS
                  rw [e0]
                  dsimp only
                  -- the rest leaves it
                  have nom : ∀ j : Nat, hs[j]? ≠ some (Hd.slot m) := fun j z => by
                    unfold lentS at nd
                    rw [e0] at nd
                    exact (List.nodup_cons.mp nd).1 (lentS_mem z (by rw [e0]; rfl))
                  have hm : m < s.sl.length := (List.getElem?_eq_some_iff.mp (ownAt_some e0).1).1
                  have stay : ∀ {l : List Hd} {s1 : Sta} {as : List (Option Vl)}, (∀ j : Nat, l[j]? ≠ some (Hd.slot m)) → (backS s1 l as).sl[m]? = s1.sl[m]? := by
                    intro l
                    induction l with
                    | nil => intro s1 as _; cases as <;> rfl
                    | cons y l ih2 =>
                      intro s1 as hl
                      cases as with
                      | nil => cases y <;> rfl
                      | cons o as =>
                        have hl' : ∀ j : Nat, l[j]? ≠ some (Hd.slot m) := fun j z => hl (j + 1) (by simpa using z)
                        cases y with
                        | val _ => exact ih2 (s1 := s1) (as := as) hl'
                        | slot k =>
                          have hk : k ≠ m := fun z => hl 0 (by rw [z]; rfl)
                          unfold backS
                          split
                          · rw [ih2 hl']
                            exact List.getElem?_set_ne hk
                          · exact ih2 hl'
                  rw [stay nom]
                  show (s.sl.set m (some (⟨w.d, w.s, w0.l⟩ : Vl)))[m]? = _
                  rw [List.getElem?_set_self hm]
                | succ j =>
                  have nd' : (lentS s hs).Nodup := by
                    unfold lentS at nd
                    split at nd
                    · exact (List.nodup_cons.mp nd).2
                    · exact nd
                  unfold backS
                  cases q : ownAt s m with
                  | none => exact ih (s := s) (as := as) (j := j) nd' (by simpa using h1) e0 (by simpa using h3)
                  | some w1 =>
                    dsimp only
                    have hmi : m ≠ i := fun z => by
                      unfold lentS at nd
                      rw [q] at nd
                      subst z
                      exact (List.nodup_cons.mp nd).1 (lentS_mem (j := j) (by simpa using h1) (by rw [q]; rfl))
                    have off : ∀ k, k ≠ m → ownAt (⟨s.sl.set m (o.map fun a => (⟨a.d, a.s, w1.l⟩ : Vl)), s.ob⟩ : Sta) k = ownAt s k := fun k hk => by
                      unfold ownAt
                      dsimp only
                      have : (s.sl.set m (o.map fun a => (⟨a.d, a.s, w1.l⟩ : Vl)))[k]? = s.sl[k]? := List.getElem?_set_ne fun z => hk z.symm
                      rw [this]
                    have nom : ∀ j : Nat, hs[j]? ≠ some (Hd.slot m) := fun j z => by
                      unfold lentS at nd
                      rw [q] at nd
                      exact (List.nodup_cons.mp nd).1 (lentS_mem z (by rw [q]; rfl))
                    have same : ∀ {l : List Hd}, (∀ j : Nat, l[j]? ≠ some (Hd.slot m)) → lentS (⟨s.sl.set m (o.map fun a => (⟨a.d, a.s, w1.l⟩ : Vl)), s.ob⟩ : Sta) l = lentS s l := by
                      intro l hl
                      induction l with
                      | nil => rfl
                      | cons x l ih =>
                        have ih' := ih fun j z => hl (j + 1) (by simpa using z)
                        cases x with
                        | val _ => exact ih'
                        | slot k =>
                          have hk : k ≠ m := fun z => hl 0 (by rw [z]; rfl)
                          unfold lentS
                          rw [off k hk, ih']
                    exact ih (as := as) (j := j) (by rw [same nom]; exact nd') (by simpa using h1) (by rw [off i fun z => hmi z.symm]; exact e0) (by simpa using h3)
        exact key nd h1 e0 q2'
      · rw [F2no hi] at n
        obtain ⟨v, w, q1, q2⟩ := r.emp _ n
        refine ⟨v, w, q1, ?_⟩
        have stay : ∀ {l : List Hd} {s1 : Sta} {as : List (Option Vl)}, (∀ j : Nat, l[j]? = some (Hd.slot i) → ownAt s1 i = none) → (backS s1 l as).sl[i]? = s1.sl[i]? := by
          intro l
          induction l with
          | nil => intro s1 as _; cases as <;> rfl
          | cons y l ih2 =>
            intro s1 as hl
            cases as with
            | nil => cases y <;> rfl
            | cons o as =>
              cases y with
              | val _ => exact ih2 (s1 := s1) (as := as) fun j z => hl (j + 1) (by simpa using z)
              | slot k =>
                unfold backS
                split
                · rename_i w1 e1
                  have hk : k ≠ i := fun z => by
                    subst z
                    rw [hl 0 rfl] at e1
                    cases e1
                  rw [ih2 fun j z => ?_]
                  · exact List.getElem?_set_ne hk
                  · have := hl (j + 1) (by simpa using z)
                    unfold ownAt at this ⊢
                    dsimp only
                    have e2 : (s1.sl.set k (o.map fun a => (⟨a.d, a.s, w1.l⟩ : Vl)))[i]? = s1.sl[i]? := List.getElem?_set_ne hk
                    rw [e2]
                    exact this
                · exact ih2 fun j z => hl (j + 1) (by simpa using z)
        have := stay (l := hs) (s1 := s) (as := as) fun j z => by
          cases q : ownAt s i with
          | none => rfl
          | some w1 => exact (hi ⟨j, z, by rw [q]; rfl⟩).elim
        show (backS s hs as).sl[i]? = _
        rw [this]
        exact q2
  · -- unlike roots share nothing
    have one : ∀ {x a}, a ∈ F2 s p hs F F1 x → (∃ y, a ∈ F1 y) → (∃ j, x = .pd (p.length + j) ∧ a ∈ F1 (.pd j)) ∨ ∃ i j, x = .sl i ∧ hs[j]? = some (.slot i) ∧ (ownAt s i).isSome = true ∧ a ∈ F1 (.sl j) := fun {x a} h ⟨y, hy⟩ => by
      cases x with
      | pd j =>
        by_cases hj : j < p.length
        · exfalso
          rw [F2pd hj] at h
          refine nbB hy ⟨_, h, offArg h fun k w e n z => ?_⟩
          unfold ax at z
          split at z
          · cases z
          · injection z with z
            omega
        · obtain ⟨k, rfl⟩ : ∃ k, j = p.length + k := ⟨j - p.length, by omega⟩
          rw [F2pd'] at h
          exact Or.inl ⟨k, rfl, h⟩
      | sl i =>
        by_cases hi : ∃ j : Nat, hs[j]? = some (Hd.slot i) ∧ (ownAt s i).isSome = true
        · obtain ⟨j, h1, h2⟩ := hi
          rw [F2yes h1 h2] at h
          exact Or.inr ⟨i, j, rfl, h1, h2, h⟩
        · exfalso
          rw [F2no hi] at h
          refine nbB hy ⟨_, h, offArg h fun k w e n z => hi ?_⟩
          unfold ax at z
          split at z
          · rename_i i2 e2
            injection z with z
            subst z
            exact ⟨k, e2, by rw [ownArg e n e2]; rfl⟩
          · cases z
    have two : ∀ {x a}, a ∈ F2 s p hs F F1 x → (∃ x0, a ∈ F x0 ∧ a ∉ f0Of F p hs args) → a ∈ F x := fun {x a} h q => by
      cases x with
      | pd j =>
        by_cases hj : j < p.length
        · rw [F2pd hj] at h
          exact h
        · obtain ⟨k, rfl⟩ : ∃ k, j = p.length + k := ⟨j - p.length, by omega⟩
          rw [F2pd'] at h
          exact (nbB h q).elim
      | sl i =>
        by_cases hi : ∃ j : Nat, hs[j]? = some (Hd.slot i) ∧ (ownAt s i).isSome = true
        · obtain ⟨j, h1, h2⟩ := hi
          rw [F2yes h1 h2] at h
          exact (nbB h q).elim
        · rw [F2no hi] at h
          exact h
    rcases cls hx with q | q
    · exact r.dis x y a (two hx q) (two hy q)
    · rcases one hx q with ⟨j, rfl, h1⟩ | ⟨i, j, rfl, e1, o1, h1⟩ <;> rcases one hy q with ⟨k, rfl, h2⟩ | ⟨m, k, rfl, e2, o2, h2⟩
      · have := r1.dis _ _ a h1 h2
        injection this with this
        rw [this]
      · have := r1.dis _ _ a h1 h2
        cases this
      · have := r1.dis _ _ a h1 h2
        cases this
      · have := r1.dis _ _ a h1 h2
        injection this with this
        subst this
        rw [e1] at e2
        injection e2 with e2
        injection e2 with e2
        rw [e2]
  · cases x with
    | pd j =>
      by_cases hj : j < p.length
      · rw [F2pd hj]
        exact r.nod _
      · obtain ⟨k, rfl⟩ : ∃ k, j = p.length + k := ⟨j - p.length, by omega⟩
        rw [F2pd']
        exact r1.nod _
    | sl i =>
      by_cases hi : ∃ j : Nat, hs[j]? = some (Hd.slot i) ∧ (ownAt s i).isSome = true
      · obtain ⟨j, h1, h2⟩ := hi
        rw [F2yes h1 h2]
        exact r1.nod _
      · rw [F2no hi]
        exact r.nod _
  · rcases cls hx with ⟨x0, h, _⟩ | ⟨y, h⟩
    · exact r.nb x0 a h
    · rcases (r1.nb y a h).2 with z | z
      · obtain ⟨j, w, _, _, h1⟩ := (mem a).mp z
        exact r.nb _ a h1
      · have z' : H a = none := z
        refine ⟨fun b => ?_, Or.inr ?_⟩
        · obtain ⟨o, e⟩ := r.bd a b
          rw [z'] at e
          cases e
        · cases e : G.H0 a with
          | none => rfl
          | some o =>
            exfalso
            by_cases q : a ∈ G.cs
            · obtain ⟨ps, e2, _⟩ := (r.tab a q).2
              rw [z'] at e2
              cases e2
            · by_cases q2 : a ∈ G.f0
              · obtain ⟨_, o2, e2⟩ := r.fd a q2
                rw [z'] at e2
                cases e2
              · have := r.kp a o e q2 q
                rw [z'] at this
                cases this
  · refine r1.kp a o (r.kp a o e n1 n2) (fun m => ?_) n2
    obtain ⟨j, w, _, _, h1⟩ := (mem a).mp m
    rcases (r.nb _ a h1).2 with q | q
    · exact n1 q
    · rw [q] at e
      cases e
  · refine r1.bd a ⟨Or.inl b, fun m => ?_⟩
    obtain ⟨j, w, _, _, h1⟩ := (mem a).mp m
    exact (r.nb _ a h1).1 b
  · obtain ⟨nc, o, e⟩ := r.fd a hf
    refine ⟨nc, ?_⟩
    by_cases m : a ∈ f0Of F p hs args
    · exact (r1.fd a m).2
    · exact ⟨o, r1.kp a o e m nc⟩
  · have z' : (p ++ p')[j]? = some (v, .slot i) := z
    by_cases hj : j < p.length
    · rw [List.getElem?_append_left hj] at z'
      exact r.wf.hd j v i (by rw [List.getElem?_append_left hj]; exact z')
    · rw [List.getElem?_append_right (Nat.le_of_not_lt hj)] at z'
      exact (ns _ v i z').elim
  · rw [backS_len]
    exact r.wf.len
  · rcases backS_at nd las z with ⟨_, h2⟩ | ⟨j, w0, a, h1, h2, _, _⟩
    · exact r.wf.slv i w h2
    · exact r.wf.slv i w0 (ownAt_some h2).1
  · rcases backS_at nd las z with ⟨_, h2⟩ | ⟨j, w0, a, h1, h2, _, rfl⟩
    · exact r.wf.lent i w h2 hlen
    · exact r.wf.lent i w0 (ownAt_some h2).1 hlen
end
end Z
/-! # calls as expressions; defs of the text by their functions; the law -/
namespace Z
open PySem PySem.Spec PyProof.Rows L2 GxR
section
variable {G : Fr} {W : WX} {n : Nat} {g : FDef} {tr : TA} {fr : FA}
def fCallN (n : Nat) (g : FDef) (fr : FA) : FE := fun s => (fr s).bind fun hs s1 => if hs.length = n then callD g s1 hs else .no
theorem RLx.leave {p : Pd} {s : Sta} {σ : L2.St} {H H' : Hp} {F : Ix → List Addr} {vs : List V} {hs : List Hd} {args : List Vl} {as : List (Option Vl)} {ob : List Ob1} {e : Xn} {d : Option Addr} (r : RLw G (p ++ vs.zip hs) s σ H F) (l : vs.length = hs.length) (ha : argsOf s hs = some args)
    (nd : (lentS s hs).Nodup) (r1 : RLx (G0 G.K G.cs (fun a => CF G F a ∧ a ∉ f0Of F p hs args) H (f0Of F p hs args) vs) [] ⟨as, ob⟩ (vs.map some) H' e d) : RLx G p ⟨(backS s hs as).sl, ob⟩ σ H' e d := by
  obtain ⟨F1, r1, x⟩ := r1
  obtain ⟨q, le⟩ := r.leave l ha nd (fun j v i z => by simp at z) r1
  rw [List.append_nil] at q
  refine ⟨_, q, ?_⟩
  revert x
  cases e.fs with
  | none => exact fun x => x
  | some fs => exact fun ⟨dd, e1, e2, n⟩ => ⟨dd, e1, e2, fun c => n (le _ c)⟩
theorem call_ok {p : Pd} {s : Sta} {σ : L2.St} {H : Hp} {vs : List V} {hs : List Hd} {Q : VK} (l : vs.length = hs.length) (hn : hs.length = n) (r : RL G (p ++ vs.zip hs) s σ H) (post : PoE G p σ Q W (callD g s hs)) : spF G.K G.cs n g vs H Q (WE W σ) := by
  obtain ⟨F, r⟩ := r
  unfold callD at post
  split at post
  · exact post.elim
  · rename_i args ha
    split at post
    · rename_i nd
      obtain ⟨la, _⟩ := argsOf_at ha
      refine ⟨_, _, args, s.ob, l.trans hn, la.trans hn, r.enter l ha nd, ?_⟩
      split at post
      · rename_i w as ob e
        rw [e]
        intro v H' r1
        obtain ⟨F1, r1⟩ := r1
        obtain ⟨q, _⟩ := r.leave l ha nd (fun j v i z => by
          cases j with
          | zero => simp at z
          | succ j => simp at z) r1
        exact post v H' ⟨_, q⟩
      · rename_i x as ob e
        rw [e]
        intro d H' r1
        exact post d H' (RLx.leave r l ha nd r1)
      · exact post.elim
    · exact post.elim
theorem sem_call (ha : SemA G W tr fr) : SemE G W (tCallS (spF G.K G.cs n g) (WE W) tr) (fCallN n g fr) := fun p s σ H Q r0 post => by
  refine ha.bind (P := PoE G p σ Q W) (fun z => z) r0 post (fun _ _ z => z) fun hs s1 vs H1 post l r1 => ?_
  split at post
  · rename_i hn
    exact call_ok l hn r1 post
  · exact post.elim
end
/-! ### a def of the text, called where no repr is under way; it may raise -/
section
variable {P : Program} {w : World} {K : PySem.W.Frag} {mg : Str → Option Value} {base : Heap}
theorem DefG.mkX {x : Str} {st : Stmt} {fd : FuncData} {N ps : List Str} {k : Nat} {sp : Sp} (F : FunD K x x (defArgs st) (defBody st) (defScope st) [] [] (He.ga K x) fd) (gm : mg x = some (.ref (He.ga K x)))
    (S : FnScope N ps (defScope st))
    (hb : ∀ (kV doc pm : Value) (an : Option Addr) (cdv ct : Value) (us : List Value), us.length = ps.length → bindArgs (PySem.W.fnOf x x (defArgs st) (defBody st) (defScope st) .none kV doc pm an cdv ct) ⟨us, []⟩ = pure (ps.zip us))
    (len : ∀ xs G Q E, sp xs G Q E → xs.length = ps.length)
    (body : ∀ (cdv : Value) (A : Around) (outer : List Env) (s : Shared) (H : Hp) (xs : List V) (Q : VK) (E : XK), A.guards = some [] → Takes (cxOf (L2.CX P w) P w K mg base N x (defScope st) (He.ga K x) cdv A outer s H E) (fun cls d _ H => E cls d H) →
      PassesOwn (model P w) (cxOf (L2.CX P w) P w K mg base N x (defScope st) (He.ga K x) cdv A outer s H E).A (cxOf (L2.CX P w) P w K mg base N x (defScope st) (He.ga K x) cdv A outer s H E).env (cxOf (L2.CX P w) P w K mg base N x (defScope st) (He.ga K x) cdv A outer s H E).xe →
      Room k (A.deeper (envOfC x (defScope st) s.heap.objs.size (He.ga K x) cdv)) → sp xs H Q E →
      ∃ t, PSs (cxOf (L2.CX P w) P w K mg base N x (defScope st) (He.ga K x) cdv A outer s H E) (defBody st) t ∧ t { nx := fun _ H' => Q .non H', rt := Q } (L2.start N xs) H) : DefG P w K mg base (L2.CX P w) x (k + 1) ps sp :=
  DefG.mk' F gm S hb len fun cdv A outer s H xs Q E gu hr h => body cdv A outer s H xs Q E gu (takes_of rfl rfl rfl rfl) (passes_of rfl) hr h
/-- what a body's term and its function must be -/
theorem reads_ok {X : Cx} {N : List Str} {body : List Stmt} {t : TS} {cs : List Addr} {n m : Nat} {f : FS} {cv : List Nat} {vs : List V} {H : Hp} {Q : VK} {E : XK} (ht : PSs X body t) (hs : ∀ (B : Addr → Prop) (H : Hp) (f0 : List Addr) (vs : List V), SemS ⟨K, cs, B, H, f0, vs, cv, none, fun _ => True⟩ (fun cls d _ H => E cls d H) t f)
    (hN : N.length = n + m) (h : spF K cs n (fDef m f) vs H Q E) : ∃ t, PSs X body t ∧ t { nx := fun _ H' => Q .non H', rt := Q } (L2.start N vs) H := by
  refine ⟨t, ht, ?_⟩
  have e := body_ok (m := m) (cv := cv) (f := f) (t := t) hs (fun _ _ _ _ h => h) h
  have l := spF_len h
  have q : L2.start N vs = vs.map some ++ List.replicate m none := by
    unfold L2.start
    rw [hN, l, Nat.add_sub_cancel_left]
  rw [q]
  exact e
/-- the same where nothing is let out (the law) -/
theorem reads_law {X : Cx} {N : List Str} {body : List Stmt} {t : TS} {cs : List Addr} {n m : Nat} {f : FS} {cv : List Nat} {vs : List V} {H : Hp} {Q : VK} (ht : PSs X body t) (hs : ∀ (B : Addr → Prop) (H : Hp) (f0 : List Addr) (vs : List V), SemS ⟨K, cs, B, H, f0, vs, cv, none, fun _ => True⟩ (fun _ _ _ _ => False) t f)
    (hN : N.length = n + m) (h : spF K cs n (fDef m f) vs H Q fun _ _ _ => False) : ∃ t, PSs X body t ∧ t { nx := fun _ H' => Q .non H', rt := Q } (L2.start N vs) H := by
  refine ⟨t, ht, ?_⟩
  have e := body_ok (m := m) (cv := cv) (f := f) (t := t) hs (fun _ _ _ _ h => h) h
  have l := spF_len h
  have q : L2.start N vs = vs.map some ++ List.replicate m none := by
    unfold L2.start
    rw [hN, l, Nat.add_sub_cancel_left]
  rw [q]
  exact e
end
section
variable {X : Cx} {CX : CXT} {k : Nat} {f : Addr} {fd : FuncData} {ps : List Str} {sp : Sp} {E : XK} {W : WX}
theorem runGS {pins : List (Addr × Obj)} {σ : L2.St} {H : Hp} {s : Shared} {Q : VK} {us : List Value} {xs : List V} (F : FnG X.prog X.w X.K X.mg X.base CX k f fd ps sp) (gu : X.A.guards = some []) (hr : Room k X.A) (hb : Binds X.K fd ps []) (hx : PassesAt CX X σ E)
    (I : Inv X pins σ H s) (r : Vals xs us) (h : sp xs H Q E) : wpAny (model X.prog X.w) X.A (PySem.call (.ref f) us) (EP X pins σ Q) X.xe s := by
  have lenU : us.length = ps.length := by
    rw [← r.length]
    exact F.ar _ _ _ _ h
  have bound := hb s us I.kIn (by rw [List.append_nil]; exact lenU)
  rw [List.append_nil] at bound
  refine wpAny_call (codeAny_mono (F.go X.A X.stack s H ⟨us, []⟩ us xs Q E gu hr I.env0 bound r h) fun res s' q => ?_)
  match res, q with
  | .ok (.ret u), q => exact I.after q
  | .error e, q => exact hx pins H s e s' I q
theorem pe_calF {x : Str} {e : Expr} {es : List Expr} {t : TA} {p pos : Pos} (D : DefG X.prog X.w X.K X.mg X.base (L2.CX X.prog X.w) x k ps sp) (gu : X.A.guards = some []) (tk : Takes X W) (hr : Room k X.A) (hg : Gl X x) (ha : PA X (e :: es) t)
    (he : starEach (e :: es) X.env = (false, eval e X.env) :: starEach es X.env := by rfl) (hpl : (backTo pos (starEach es X.env)).any (·.1) = false := by rfl) (hd : (x == ("__debug__" : Str)) = false := by decide) :
    PE X (.Call (.Name x p) (e :: es) [] pos) (tCallS sp (WE W) t) := by
  obtain ⟨⟨fd, F, b⟩, kp, gm⟩ := D
  constructor
  intro pins s σ H Q I h
  refine wpAny_Call_Name_kw (ld_glob I hg gm ?_ hd)
  refine PySem.W.callWith_K (h₀ := X.base) I.ok.mod.kin kp ?_ he hpl
  refine thn (ha.run pos pins s σ H _ I h) fun us s1 q => ?_
  obtain ⟨xs, H1, I1, r, q⟩ := q
  exact ⟨I1.kIn, runGS F gu hr b (passAt tk σ) I1 r q⟩
theorem pe_calF0 {x : Str} {p pos : Pos} (D : DefG X.prog X.w X.K X.mg X.base (L2.CX X.prog X.w) x k ps sp) (gu : X.A.guards = some []) (tk : Takes X W) (hr : Room k X.A) (hg : Gl X x) (hd : (x == ("__debug__" : Str)) = false := by decide) :
    PE X (.Call (.Name x p) [] [] pos) (tCallS sp (WE W) tNil) := by
  obtain ⟨⟨fd, F, b⟩, kp, gm⟩ := D
  constructor
  intro pins s σ H Q I h
  refine wpAny_Call_Name_kw (ld_glob I hg gm ?_ hd)
  exact PySem.W.callWith_K0 I.kIn kp (runGS (us := []) (xs := []) F gu hr b (passAt tk σ) I .nil h)
end
/-! ### the law begins -/
def scriptD (ns : List Int) : Vl := ⟨.list (ns.map PyData.int), .rd, false⟩
theorem rp_ints {K : PySem.W.Frag} {C : Addr → Prop} {H : Hp} : ∀ ns : List Int, RpAll K C H (ns.map V.int) (ns.map PyData.int)
  | [] => .nil
  | n :: ns => .cons (.int n) (rp_ints ns)
theorem law_in {K : PySem.W.Frag} {cs : List Addr} {g : FDef} {a : Addr} {ns : List Int} {H : Hp} {E : XK} {l : Bool} {as : List (Option Vl)} {ob : List Ob1} (i : ∀ P ∈ cs, TabG H P) (hs : SqL K H a (ns.map V.int)) (hg : g [scriptD ns] [] = .ok ⟨.bool true, .fz, l⟩ as ob) :
    spF K cs 1 g [.ref a] H (fun v _ => v = .bl true) E := by
  refine ⟨fun a => a ∈ cs, [], [scriptD ns], [], rfl, rfl, ⟨fun _ => [], fun x v w z => ?_, fun x n => (n rfl).elim, fun x y a h => (by cases h), fun x => List.nodup_nil, fun x a h => (by cases h), fun a o e _ _ => e, fun P hP => ⟨hP, i P hP⟩, fun P hP => ?_, fun a h => (by cases h), fun dd fs e => (by cases e), ⟨fun j v i z => by simp at z, rfl, fun i w z => ?_, fun i w z l => ?_, trivial⟩⟩, ?_⟩
  · cases x with
    | pd j =>
      have z' : ([] : Pd)[j]? = some (v, Hd.val w) := z
      simp at z'
    | sl j =>
      obtain ⟨z1, z2⟩ := z
      cases j with
      | succ j => simp at z1
      | zero =>
        have e1 : V.ref a = v := by simpa using z1
        have e2 : (scriptD ns).enter = w := by simpa [stIn] using z2
        subst e1 e2
        refine ⟨rfl, a, ns.map V.int, ns.map PyData.int, rfl, rfl, ?_, rp_ints ns⟩
        rcases hs with h | ⟨o, its, n, h⟩
        · refine Or.inl ⟨fun c => ?_, h⟩
          rcases c with c | ⟨x, c⟩
          · obtain ⟨ps, e, _⟩ := i a c
            rcases h with h | ⟨o, h⟩
            · rw [h] at e
              cases e
            · rw [h] at e
              cases e
          · cases c
        · exact Or.inr fun H' => Or.inr ⟨o, its, n, h⟩
  · obtain ⟨ps, e, _⟩ := i P hP
    exact ⟨_, e⟩
  · cases i with
    | zero => exact ⟨.ref a, rfl⟩
    | succ i => simp [stIn] at z
  · cases i with
    | zero => exact ⟨.ref a, rfl, rfl⟩
    | succ i => simp [stIn] at z
  · rw [hg]
    intro v H' r
    obtain ⟨F, r⟩ := r
    have o := r.own (.pd 0) v _ rfl
    exact o.2.eq_bool
end Z
/-! # built-ins, subscripts, slices, methods, what is walked -/
namespace Z
open PySem PySem.Spec PyProof.Rows L2 GxR
/-! ### calls by values -/
abbrev OpdL (G : Fr) (C : Addr → Prop) (H : Hp) : List V → List Vl → Prop := Paired (Opd G C H)
def CallS (G : Fr) (r : List V → Hp → VK → Prop) (g : List Vl → Option Vl) : Prop := ∀ C H vs ws w Q, Cok G C H → OpdL G C H vs ws → g ws = some w → Made G C H Q w → r vs H Q
def fB (g : List Vl → Option Vl) (fr : FA) : FE := fun s => (fr s).bind fun hs s1 => match argsOf s1 hs with
  | some ws => (match g ws with
    | some w => .ok (.val w) s1
    | none => .no)
  | none => .no
section
variable {G : Fr} {W : WX} {p q : Pd} {s s' : Sta} {σ σ' : L2.St} {H H' : Hp} {F : Ix → List Addr} {v x y : V} {w w1 w2 : Vl} {d : PyData} {ds : List PyData} {h : Hd} {hs : List Hd} {vs : List V} {ws : List Vl} {i j : Nat} {C : Addr → Prop} {Q : VK} {tr : TA} {fr : FA} {te ta tb tc : TE} {fe fa fb fc : FE}
theorem RLw.opds : ∀ {hs : List Hd} {vs : List V} {ws : List Vl} {p : Pd}, RLw G (p ++ vs.zip hs) s σ H F → vs.length = hs.length → argsOf s hs = some ws → OpdL G (CF G F) H vs ws
  | [], vs, ws, p, r, l, a => by
    cases List.eq_nil_of_length_eq_zero l
    cases a
    exact .nil
  | h :: hs, [], ws, p, r, l, a => by cases l
  | h :: hs, v :: vs, ws, p, r, l, a => by
    unfold argsOf at a
    split at a
    · rename_i w ws' e1 e2
      cases a
      have at_ : (p ++ (v :: vs).zip (h :: hs))[p.length]? = some (v, h) := by
        rw [List.getElem?_append_right (Nat.le_refl _), Nat.sub_self]
        rfl
      have o := r.opd at_ e1
      have e3 : p ++ (v :: vs).zip (h :: hs) = (p ++ [(v, h)]) ++ vs.zip hs := by
        rw [List.append_assoc]
        rfl
      rw [e3] at r
      exact .cons o (RLw.opds r (by simpa using l) e2)
    · cases a
theorem sem_b {r : List V → Hp → VK → Prop} {g : List Vl → Option Vl} (hc : CallS G r g) (ha : SemA G W tr fr) : SemE G W (tCB r tr) (fB g fr) := fun p s σ H Q r0 post => by
  refine ha.bind (P := PoE G p σ Q W) (fun z => z) r0 post (fun _ _ z => z) fun hs s1 vs H1 post l r1 => ?_
  split at post
  · rename_i ws e
    split at post
    · rename_i w e2
      obtain ⟨F, r1⟩ := r1
      exact hc (CF G F) H1 vs ws w Q r1.cok (r1.opds l e) e2 (r1.made post)
    · exact post.elim
  · exact post.elim
theorem opd1 (o : OpdL G C H vs [w]) : ∃ v, vs = [v] ∧ Opd G C H v w := by
  cases o with
  | cons a b =>
    cases b
    exact ⟨_, rfl, a⟩
theorem opd2 (o : OpdL G C H vs [w1, w2]) : ∃ v1 v2, vs = [v1, v2] ∧ Opd G C H v1 w1 ∧ Opd G C H v2 w2 := by
  cases o with
  | cons a b =>
    obtain ⟨v2, rfl, b2⟩ := opd1 b
    exact ⟨_, _, rfl, a, b2⟩
/-- a list that can be read: its place, how many; its items, where they are held for good -/
theorem Opd.seq (o : Opd G C H v w) (e : w.d = .list ds) : ∃ a vs, v = .ref a ∧ SqL G.K H a vs ∧ vs.length = ds.length ∧ (w.s = .fz ∨ w.s = .rd ∨ w.s = .ls .fz → RpAll G.K C H vs ds) := by
  obtain ⟨fp, _, np, o⟩ := o
  cases hs : w.s with
  | fz =>
    rw [hs, e] at o
    obtain ⟨_, o⟩ := o
    cases o with
    | lst s r => exact ⟨_, _, rfl, s.sq, r.len, fun _ => r⟩
  | rd =>
    rw [hs, e] at o
    obtain ⟨_, a, vs, ds', e1, e2, st, r⟩ := o
    cases e2
    exact ⟨a, vs, e1, st.sq, r.len, fun _ => r⟩
  | tn =>
    rw [hs, e] at o
    obtain ⟨_, a, vs, ds', ob, _, e2, _⟩ := o
    cases e2
  | ls s =>
    rw [hs, e] at o
    obtain ⟨a, vs, ds', f, e1, e2, e3, r, _⟩ := o
    cases e2
    refine ⟨a, vs, e1, SqL.of e3, r.len, fun z => ?_⟩
    rcases z with z | z | z
    · cases z
    · cases z
    · cases z
      exact r.fz.2
  | mp s =>
    rw [hs, e] at o
    obtain ⟨a, vs, ds, f', _, e2, _⟩ := o
    cases e2
  | mt s => rw [hs] at np; cases np
  | st => rw [hs] at o; exact o.elim
  | ob => rw [hs] at o; exact o.elim
def rdItems (s : Sh) : Bool := decide (s = .fz) || decide (s = .rd) || decide (s = .ls .fz)
theorem rdItems_or {s : Sh} (h : rdItems s = true) : s = .fz ∨ s = .rd ∨ s = .ls .fz := by
  unfold rdItems at h
  simp only [Bool.or_eq_true, decide_eq_true_eq] at h
  rcases h with (h | h) | h
  · exact Or.inl h
  · exact Or.inr (Or.inl h)
  · exact Or.inr (Or.inr h)
theorem Opd.dic (o : Opd G C H v w) {kvs : List (PyData × PyData)} (e : w.d = .dict kvs) : ∃ (s : Sh) (a : Addr) (ks : List (Key × V)) (ds : List PyData) (f : List Addr), w.s = .mp s ∧ v = .ref a ∧ kvs = (ks.map fun p => kD p.1).zip ds ∧ H a = some (.dK ks) ∧ OwL (Ow G.K C H s) (ks.map (·.2)) ds f := by
  obtain ⟨fp, _, np, o⟩ := o
  cases hs : w.s with
  | fz =>
    rw [hs, e] at o
    obtain ⟨_, o⟩ := o
    cases o
  | rd =>
    rw [hs, e] at o
    obtain ⟨_, a, vs, ds', e1, e2, _⟩ := o
    cases e2
  | tn =>
    rw [hs, e] at o
    obtain ⟨_, a, vs, ds', ob, _, e2, _⟩ := o
    cases e2
  | ls s =>
    rw [hs, e] at o
    obtain ⟨a, vs, ds', f, e1, e2, _⟩ := o
    cases e2
  | mp s =>
    rw [hs, e] at o
    obtain ⟨a, ks, ds, f', e1, e2, e3, o, _⟩ := o
    injection e2 with e2
    exact ⟨s, a, ks, ds, f', rfl, e1, e2, e3, o⟩
  | mt s => rw [hs] at np; cases np
  | st => rw [hs] at o; exact o.elim
  | ob => rw [hs] at o; exact o.elim
/-! ### len, int, repr, isinstance, min, max, tuple, list -/
def rLenF (K : PySem.W.Frag) : List V → Hp → VK → Prop := fun xs H Q => rLenG K xs H Q ∨ ∃ (a : Addr) (kvs : List (Key × V)), xs = [.ref a] ∧ H a = some (.dK kvs) ∧ Q (.int kvs.length) H
theorem call_lenF {X : Cx} : CallR X (.builtin "len") (rLenF X.K) := CallR.or call_lenG call_lenD
def gLen : List Vl → Option Vl
  | [w] => match w.d with
    | .list ds => some (.f (.int ds.length))
    | .tuple ds => some (.f (.int ds.length))
    | .str x => if x.length ≤ sizeLine then some (.f (.int x.length)) else none
    | .dict kvs => some (.f (.int kvs.length))
    | _ => none
  | _ => none
theorem calls_len : CallS G (rLenF G.K) gLen := fun C H vs ws w Q c os e m => by
  unfold gLen at e
  split at e
  · rename_i w1
    obtain ⟨v, rfl, o⟩ := opd1 os
    split at e
    · rename_i ds e1
      cases e
      obtain ⟨a, vs, rfl, sq, l, _⟩ := o.seq e1
      exact Or.inl (Or.inl ⟨a, vs, rfl, Or.inl sq, by rw [l]; exact m.flat c (.int _)⟩)
    · rename_i ds e1
      cases e
      obtain ⟨a, vs, rfl, st, r⟩ := o.tup e1
      exact Or.inl (Or.inl ⟨a, vs, rfl, Or.inr st.sq, by rw [r.len]; exact m.flat c (.int _)⟩)
    · rename_i x e1
      split at e
      · rename_i hz
        cases e
        rw [o.flat e1 rfl]
        exact Or.inl (Or.inr ⟨x, rfl, hz, m.flat c (.int _)⟩)
      · cases e
    · rename_i kvs e1
      cases e
      obtain ⟨s, a, ks, ds, f, _, rfl, rfl, hd, ow⟩ := o.dic e1
      refine Or.inr ⟨a, ks, rfl, hd, ?_⟩
      have l := ow.len
      have : ((ks.map fun p => kD p.1).zip ds).length = ks.length := by
        rw [List.length_map] at l
        rw [List.length_zip, List.length_map]
        omega
      rw [this] at m
      exact m.flat c (.int _)
    · cases e
  · cases e
def gInt1 : List Vl → Option Vl
  | [w] => match w.d with
    | .int i => some (.f (.int i))
    | .bool b => some (.f (.int (if b = true then 1 else 0)))
    | _ => none
  | _ => none
theorem calls_int : CallS G rIntG gInt1 := fun C H vs ws w Q c os e m => by
  unfold gInt1 at e
  split at e
  · obtain ⟨v, rfl, o⟩ := opd1 os
    split at e
    · rename_i i e1
      cases e
      rw [o.flat e1 rfl]
      exact Or.inl (Or.inl ⟨i, rfl, m.flat c (.int _)⟩)
    · rename_i b e1
      cases e
      rw [o.flat e1 rfl]
      exact Or.inl (Or.inr ⟨b, rfl, m.flat c (.int _)⟩)
    · cases e
  · cases e
def gRepr : List Vl → Option Vl
  | [w] => if w.s.fzOk = true ∧ w.d.hasDict = false ∧ w.d.depth ≤ 100 ∧ w.d.showable = true ∧ w.d.shown.length ≤ sizeLine then some (.f (.str w.d.shown)) else none
  | _ => none
theorem calls_repr : CallS G (rReprN G.K) gRepr := fun C H vs ws w Q c os e m => by
  unfold gRepr at e
  split at e
  · obtain ⟨v, rfl, o⟩ := opd1 os
    split at e
    · rename_i hz
      cases e
      exact ⟨v, _, rfl, o.dp hz.1, hz.2.1, hz.2.2.1, hz.2.2.2.1, hz.2.2.2.2, m.flat c (.str _)⟩
    · cases e
  · cases e
def rIsF (K : PySem.W.Frag) (n : String) : List V → Hp → VK → Prop := fun xs H Q => ∃ (v : V) (d : PyData), xs = [v, .ty n] ∧ okT n = true ∧ TyX K H v (.type (tyD d)) ∧ tyD d ∈ ["NoneType", "bool", "int", "str", "list", "tuple"] ∧ Q (.bl (isD d n)) H
theorem call_isF {X : Cx} {n : String} : CallR X (.builtin "isinstance") (rIsF X.K n) := by
  intro pins s σ H xs us Q I r h
  obtain ⟨v, d, rfl, ok, ty, m, q⟩ := h
  refine call_isi pins s σ H _ us Q I r ⟨v, .ty n, _, _, isD d n, rfl, .ty n, ty, kit_ty ?_, q⟩
  have k := List.all_eq_true.mp (List.all_eq_true.mp kit_all _ m) _ (okT_mem ok)
  have k' := of_decide_eq_true k
  rw [k', isD_eq ok]
def fIs (n : String) (fa : FE) : FE := fun s => (fa s).bind fun h s1 => match lookH s1 h with
  | some w => if okT n = true ∧ w.s.fzOk = true then .ok (.val (.f (.bool (isD w.d n)))) s1 else .no
  | none => .no
theorem sem_is {n : String} (ha : SemE G W ta fa) : SemE G W (tCB (rIsF G.K n) (tCons ta (tCons (tC (.ty n)) tNil))) (fIs n fa) := fun p s σ H Q r0 post => by
  refine ha.bind (P := PoE G p σ Q W) (fun z => z) r0 post (fun _ _ z => z) fun h s1 v H1 post r1 => ?_
  split at post
  · rename_i w e
    split at post
    · rename_i hz
      obtain ⟨F, r1⟩ := r1
      have o := r1.opd getp_new e
      have q := post (.bl (isD w.d n)) H1 (r1.rl.popN.pushF fun _ => .bl _)
      have : TyX G.K H1 v (.type (tyD w.d)) ∧ tyD w.d ∈ ["NoneType", "bool", "int", "str", "list", "tuple"] := by
        obtain ⟨fp, _, np, o⟩ := o
        cases hs : w.s with
        | fz =>
          rw [hs] at o
          exact tyX_of o.2
        | ls s =>
          rw [hs] at o
          obtain ⟨a, vs, ds, f, e1, e2, e3, _⟩ := o
          rw [e1, e2]
          exact ⟨.base (.lst e3), by simp [tyD]⟩
        | tn =>
          rw [hs] at o
          obtain ⟨_, a, vs, ds, ob, e1, e2, n, h, _, _⟩ := o
          rw [e1, e2]
          exact ⟨.fTuple h, by simp [tyD]⟩
        | _ =>
          rw [hs] at hz
          cases hz.2
      exact ⟨v, w.d, rfl, hz.1, this.1, this.2, q⟩
    · exact post.elim
  · exact post.elim
def rMax2 : List V → Hp → VK → Prop := fun xs H Q => ∃ i j, xs = [.int i, .int j] ∧ Q (.int (if j > i then j else i)) H
theorem call_maxG {X : Cx} (hc : X.calm = true := by rfl) : CallR X (.builtin "max") rMax2 := call_max2 hc
def gMin2 : List Vl → Option Vl
  | [a, b] => match a.d, b.d with
    | .int i, .int j => some (.f (.int (if j < i then j else i)))
    | _, _ => none
  | _ => none
def gMax2 : List Vl → Option Vl
  | [a, b] => match a.d, b.d with
    | .int i, .int j => some (.f (.int (if j > i then j else i)))
    | _, _ => none
  | _ => none
theorem calls_min : CallS G rMin2 gMin2 := fun C H vs ws w Q c os e m => by
  unfold gMin2 at e
  split at e
  · obtain ⟨v1, v2, rfl, o1, o2⟩ := opd2 os
    split at e
    · rename_i i j e1 e2
      cases e
      rw [o1.flat e1 rfl, o2.flat e2 rfl]
      exact ⟨i, j, rfl, m.flat c (.int _)⟩
    · cases e
  · cases e
theorem calls_max : CallS G rMax2 gMax2 := fun C H vs ws w Q c os e m => by
  unfold gMax2 at e
  split at e
  · obtain ⟨v1, v2, rfl, o1, o2⟩ := opd2 os
    split at e
    · rename_i i j e1 e2
      cases e
      rw [o1.flat e1 rfl, o2.flat e2 rfl]
      exact ⟨i, j, rfl, m.flat c (.int _)⟩
    · cases e
  · cases e
def rListF (K : PySem.W.Frag) : List V → Hp → VK → Prop := fun xs H Q => ∃ p ys, xs = [.ref p] ∧ (SqL K H p ys ∨ SqT K H p ys) ∧ ∀ l, H l = none → Q (.ref l) (upd H l (.lst ys))
def rTupF (K : PySem.W.Frag) : List V → Hp → VK → Prop := fun xs H Q => ∃ p ys, xs = [.ref p] ∧ ((SqL K H p ys ∧ ∀ l, H l = none → Q (.ref l) (upd H l (.tup ys))) ∨ (SqT K H p ys ∧ Q (.ref p) H))
theorem call_listF {X : Cx} : CallR X (.type "list") (rListF X.K) := call_list_of
theorem call_tupF {X : Cx} : CallR X (.type "tuple") (rTupF X.K) := call_tuple_of
def gList : List Vl → Option Vl
  | [w] => match w.d with
    | .list ds => if rdItems w.s = true then some ⟨.list ds, .ls .fz, false⟩ else none
    | .tuple ds => some ⟨.list ds, .ls .fz, false⟩
    | _ => none
  | _ => none
def gTuple : List Vl → Option Vl
  | [w] => match w.d with
    | .list ds => if rdItems w.s = true then some (.f (.tuple ds)) else none
    | .tuple ds => some (.f (.tuple ds))
    | _ => none
  | _ => none
theorem calls_list : CallS G (rListF G.K) gList := fun C H vs ws w Q c os e m => by
  unfold gList at e
  split at e
  · obtain ⟨v, rfl, o⟩ := opd1 os
    split at e
    · rename_i ds e1
      split at e
      · rename_i hz
        cases e
        obtain ⟨a, vs, rfl, sq, l, k⟩ := o.seq e1
        exact ⟨a, vs, rfl, Or.inl sq, fun q hq => m.lst c (k (rdItems_or hz)) hq⟩
      · cases e
    · rename_i ds e1
      cases e
      obtain ⟨a, vs, rfl, st, r⟩ := o.tup e1
      exact ⟨a, vs, rfl, Or.inr st.sq, fun q hq => m.lst c r hq⟩
    · cases e
  · cases e
theorem calls_tuple : CallS G (rTupF G.K) gTuple := fun C H vs ws w Q c os e m => by
  unfold gTuple at e
  split at e
  · obtain ⟨v, rfl, o⟩ := opd1 os
    split at e
    · rename_i ds e1
      split at e
      · rename_i hz
        cases e
        obtain ⟨a, vs, rfl, sq, l, k⟩ := o.seq e1
        exact ⟨a, vs, rfl, Or.inl ⟨sq, fun q hq => m.tup c (k (rdItems_or hz)) hq⟩⟩
      · cases e
    · rename_i ds e1
      cases e
      obtain ⟨a, vs, rfl, st, r⟩ := o.tup e1
      exact ⟨a, vs, rfl, Or.inr ⟨st.sq, m.flat c (.tup st r)⟩⟩
    · cases e
  · cases e
/-! ### subscripts -/
theorem atI_rp {K : PySem.W.Frag} {vs : List V} (r : RpAll K C H vs ds) {n : Int} (e : atI ds n = some d) : ∃ v, atI vs n = some v ∧ Rp K C H v d := by
  unfold atI at e ⊢
  rw [r.len]
  cases q : ixN ds.length n with
  | none =>
    rw [q] at e
    cases e
  | some j =>
    rw [q] at e
    exact r.get e
def gIx (a b : Vl) : Option Vl := match a.d, b.d with
  | .list ds, .int i => if rdItems a.s = true then (atI ds i).map .f else none
  | .tuple ds, .int i => (atI ds i).map .f
  | .str x, .int i => if x.length ≤ sizeLine then (atI x.cps.toList i).map fun c => .f (.str ⟨#[c]⟩) else none
  | _, _ => none
theorem ops_ix : OpS G (rIx G.K) gIx := fun C H x y w1 w2 w Q c o1 o2 e m => by
  unfold gIx at e
  split at e
  · rename_i ds i e1 e2
    split at e
    · rename_i hz
      cases q : atI ds i with
      | none =>
        rw [q] at e
        cases e
      | some d =>
        rw [q] at e
        cases e
        obtain ⟨a, vs, rfl, sq, l, k⟩ := o1.seq e1
        obtain ⟨v, hv, rv⟩ := atI_rp (k (rdItems_or hz)) q
        rw [o2.flat e2 rfl]
        exact Or.inl ⟨a, vs, i, v, rfl, rfl, sq, hv, m.flat c rv⟩
    · cases e
  · rename_i ds i e1 e2
    cases q : atI ds i with
    | none =>
      rw [q] at e
      cases e
    | some d =>
      rw [q] at e
      cases e
      obtain ⟨a, vs, rfl, st, r⟩ := o1.tup e1
      obtain ⟨v, hv, rv⟩ := atI_rp r q
      rw [o2.flat e2 rfl]
      exact Or.inr (Or.inl ⟨a, vs, i, v, rfl, rfl, st.sq, hv, m.flat c rv⟩)
  · rename_i x i e1 e2
    split at e
    · rename_i hz
      cases q : atI x.cps.toList i with
      | none =>
        rw [q] at e
        cases e
      | some d =>
        rw [q] at e
        cases e
        rw [o1.flat e1 rfl, o2.flat e2 rfl]
        exact Or.inr (Or.inr ⟨x, i, d, rfl, rfl, hz, q, m.flat c (.str _)⟩)
    · cases e
  · cases e
/-- one of two readings, by what the operands are -/
theorem sem_eor {t1 t2 : TE} {g1 g2 g : Vl → Vl → Option Vl} (h1 : SemE G W t1 (fOp g1 fa fb)) (h2 : SemE G W t2 (fOp g2 fa fb)) (hg : ∀ a b, g a b = g1 a b ∨ g a b = g2 a b) : SemE G W (fun σ H Q => t1 σ H Q ∨ t2 σ H Q) (fOp g fa fb) := fun p s σ H Q r post => by
  have key : fOp g fa fb s = fOp g1 fa fb s ∨ fOp g fa fb s = fOp g2 fa fb s := by
    unfold fOp
    cases fa s with
    | no => exact Or.inl rfl
    | ex _ _ => exact Or.inl rfl
    | ok h1 s1 =>
      show (fb s1).bind _ = (fb s1).bind _ ∨ (fb s1).bind _ = (fb s1).bind _
      cases fb s1 with
      | no => exact Or.inl rfl
      | ex _ _ => exact Or.inl rfl
      | ok h2 s2 =>
        show look2 s2 h1 h2 g = look2 s2 h1 h2 g1 ∨ look2 s2 h1 h2 g = look2 s2 h1 h2 g2
        unfold look2
        cases lookH s2 h1 with
        | none => exact Or.inl rfl
        | some w1 =>
          cases lookH s2 h2 with
          | none => exact Or.inl rfl
          | some w2 =>
            rcases hg w1 w2 with e | e
            · left
              dsimp only
              rw [e]
            · right
              dsimp only
              rw [e]
  rcases key with e | e
  · rw [e] at post
    exact Or.inl (h1 p s σ H Q r post)
  · rw [e] at post
    exact Or.inr (h2 p s σ H Q r post)
theorem pe_either {X : Cx} {e : Expr} {t1 t2 : TE} (h1 : PE X e t1) (h2 : PE X e t2) : PE X e (fun σ H Q => t1 σ H Q ∨ t2 σ H Q) := ⟨fun pins s σ H Q I q => q.elim (h1.run pins s σ H Q I) (h2.run pins s σ H Q I)⟩
/-- a dict's key, as it is compared -/
def keyOf : PyData → Option Key
  | .int i => some (.inl i)
  | .str x => some (.inr x)
  | _ => none
theorem keyOf_kD {d : PyData} {k : Key} (h : keyOf d = some k) : d = kD k := by
  cases d <;> first | (cases h; rfl) | cases h
theorem kD_keyOf (k : Key) : keyOf (kD k) = some k := by
  cases k <;> rfl
theorem kD_inj {k k' : Key} (h : kD k = kD k') : k = k' := by
  have := congrArg keyOf h
  rw [kD_keyOf, kD_keyOf] at this
  exact Option.some.inj this
theorem kD_val (k : Key) : valD (kD k) = kV k := by cases k <;> rfl
theorem kD_flat (k : Key) : flatD (kD k) = true := by cases k <;> rfl
/-- what a dict has at a key -/
def dGet (kvs : List (PyData × PyData)) (k : Key) : Option PyData := (kvs.find? fun p => decide (keyOf p.1 = some k)).map (·.2)
theorem dGet_cons {k k' : Key} {d : PyData} {kvs : List (PyData × PyData)} : dGet ((kD k', d) :: kvs) k = if k' = k then some d else dGet kvs k := by
  unfold dGet
  rw [List.find?_cons]
  dsimp only
  by_cases h : k' = k
  · rw [if_pos h, kD_keyOf, h, decide_eq_true rfl]
    rfl
  · rw [if_neg h, kD_keyOf, decide_eq_false fun z => h (Option.some.inj z)]
theorem dGet_ok {K : PySem.W.Frag} : ∀ {ks : List (Key × V)} {ds : List PyData} {f : List Addr} {k : Key}, OwL (Ow K C H .fz) (ks.map (·.2)) ds f → (dGet ((ks.map fun p => kD p.1).zip ds) k = none ∧ valV ks k = none) ∨ ∃ d v, dGet ((ks.map fun p => kD p.1).zip ds) k = some d ∧ valV ks k = some v ∧ Rp K C H v d
  | [], ds, f, k, o => Or.inl ⟨rfl, rfl⟩
  | p :: ks, [], f, k, o => by cases o
  | p :: ks, d :: ds, f, k, o => by
    cases o with
    | cons a b =>
      have e : (List.map (fun p => kD p.1) (p :: ks)).zip (d :: ds) = (kD p.1, d) :: (ks.map fun p => kD p.1).zip ds := rfl
      rw [e, dGet_cons]
      by_cases h : p.1 = k
      · rw [if_pos h, valV_pos h]
        exact Or.inr ⟨d, p.2, rfl, rfl, a.2⟩
      · rw [if_neg h, valV_neg h]
        exact dGet_ok b
def gDIx (a b : Vl) : Option Vl := match a.d, keyOf b.d with
  | .dict kvs, some k => if a.s = .mp .fz then (dGet kvs k).map .f else none
  | _, _ => none
theorem sem_dget (ha : SemE G W ta fa) (hb : SemE G W tb fb) : SemE G W (tDGet ta tb) (fOp gDIx fa fb) := fun p s σ H Q r0 post => by
  refine ha.bind (P := PoE G p σ Q W) (fun z => z) r0 post (fun _ _ z => z) fun h1 s1 v1 H1 post r1 => ?_
  refine hb.bind (P := PoE G p σ Q W) (fun z => z) r1 post (fun _ _ z => PoX.pop z) fun h2 s2 v2 H2 post r2 => ?_
  unfold look2 at post
  split at post
  · rename_i w1 w2 e1 e2
    split at post
    · rename_i w e
      obtain ⟨F, r2⟩ := r2
      have q1 := r2.opd two_at.1 e1
      have q2 := r2.opd two_at.2 e2
      unfold gDIx at e
      split at e
      · rename_i kvs k d1 d2
        split at e
        · rename_i hs
          obtain ⟨s', a, ks, ds, f, es, rfl, rfl, hd, ow⟩ := q1.dic d1
          rw [hs] at es
          cases es
          rcases dGet_ok (k := k) ow with ⟨z, _⟩ | ⟨d, v, z1, z2, z3⟩
          · rw [z] at e
            cases e
          · rw [z1] at e
            cases e
            have ek := keyOf_kD d2
            have ev := q2.flat ek (kD_flat k)
            rw [kD_val] at ev
            subst ev
            refine ⟨a, v, rfl, ?_, ?_⟩
            · rw [← z2]
              exact DGet.k hd
            · rw [List.append_assoc] at r2
              exact post v H2 (r2.resF z3)
        · cases e
      · cases e
    · exact post.elim
  · exact post.elim
/-- a[i] of a list, a tuple, a text, a dict -/
def gSub2 (a b : Vl) : Option Vl := match a.d with
  | .dict _ => gDIx a b
  | _ => gIx a b
theorem sem_sub (ha : SemE G W ta fa) (hb : SemE G W tb fb) : SemE G W (fun σ H Q => tOp (rIx G.K) ta tb σ H Q ∨ tDGet ta tb σ H Q) (fOp gSub2 fa fb) := by
  refine sem_eor (sem_op ops_ix ha hb) (sem_dget ha hb) fun a b => ?_
  unfold gSub2
  split
  · exact Or.inr rfl
  · exact Or.inl rfl
/-- in, not in: lists and tuples of flat things; a sign in a text -/
def inData (a b : Vl) : Option Bool := match b.d with
  | .list ds => if rdItems b.s = true ∧ flatD a.d = true ∧ ds.all flatD = true then some (inV (valD a.d) (ds.map valD)) else none
  | .tuple ds => if flatD a.d = true ∧ ds.all flatD = true then some (inV (valD a.d) (ds.map valD)) else none
  | .str z => match a.d with
    | .str x => (match x.cps.toList with
      | [c] => some (decide (c ∈ z.cps.toList))
      | _ => none)
    | _ => none
  | _ => none
def gIn (a b : Vl) : Option Vl := (inData a b).map fun b => .f (.bool b)
def gNin (a b : Vl) : Option Vl := (inData a b).map fun b => .f (.bool (!b))
theorem in_cases {b : Bool} (o1 : Opd G C H x w1) (o2 : Opd G C H y w2) (e : inData w1 w2 = some b) : (∃ p xs, y = .ref p ∧ (SqL G.K H p xs ∨ SqT G.K H p xs) ∧ flatV x = true ∧ xs.all flatV = true ∧ inV x xs = b) ∨ ∃ (c : Nat) (z : Str), x = .str ⟨#[c]⟩ ∧ y = .str z ∧ decide (c ∈ z.cps.toList) = b := by
  unfold inData at e
  split at e
  · rename_i ds e2
    split at e
    · rename_i hz
      cases e
      obtain ⟨a, vs, rfl, sq, l, k⟩ := o2.seq e2
      have r := k (rdItems_or hz.1)
      rw [o1.flat rfl hz.2.1]
      have := r.vals hz.2.2
      subst this
      exact Or.inl ⟨a, _, rfl, Or.inl sq, flatV_of hz.2.1, flatVs_of hz.2.2, rfl⟩
    · cases e
  · rename_i ds e2
    split at e
    · rename_i hz
      cases e
      obtain ⟨a, vs, rfl, st, r⟩ := o2.tup e2
      rw [o1.flat rfl hz.1]
      have := r.vals hz.2
      subst this
      exact Or.inl ⟨a, _, rfl, Or.inr st.sq, flatV_of hz.1, flatVs_of hz.2, rfl⟩
    · cases e
  · rename_i z e2
    split at e
    · rename_i x e1
      split at e
      · rename_i c e3
        cases e
        have e4 : x = ⟨#[c]⟩ := by
          cases x with
          | mk cps =>
            have e5 : cps = #[c] := by
              rw [← Array.toArray_toList (xs := cps)]
              have e6 : cps.toList = [c] := e3
              rw [e6]
            rw [e5]
        rw [o1.flat e1 rfl, o2.flat e2 rfl, e4]
        exact Or.inr ⟨c, z, rfl, rfl, rfl⟩
      · cases e
    · cases e
  · cases e
theorem ops_in : OpS G (rInG G.K) gIn := fun C H x y w1 w2 w Q c o1 o2 e m => by
  unfold gIn at e
  cases q : inData w1 w2 with
  | none =>
    rw [q] at e
    cases e
  | some b =>
    rw [q] at e
    cases e
    rcases in_cases o1 o2 q with ⟨p, xs, h1, h2, h3, h4, h5⟩ | ⟨k, z, h1, h2, h3⟩
    · exact Or.inl ⟨p, xs, h1, h2, h3, h4, by rw [if_neg Bool.false_ne_true, h5]; exact m.flat c (.bl _)⟩
    · exact Or.inr ⟨k, z, h1, h2, by rw [h3]; exact m.flat c (.bl _)⟩
theorem ops_nin : OpS G (rNinG G.K) gNin := fun C H x y w1 w2 w Q c o1 o2 e m => by
  unfold gNin at e
  cases q : inData w1 w2 with
  | none =>
    rw [q] at e
    cases e
  | some b =>
    rw [q] at e
    cases e
    rcases in_cases o1 o2 q with ⟨p, xs, h1, h2, h3, h4, h5⟩ | ⟨k, z, h1, h2, h3⟩
    · exact Or.inl ⟨p, xs, h1, h2, h3, h4, by rw [if_pos rfl, h5]; exact m.flat c (.bl _)⟩
    · exact Or.inr ⟨k, z, h1, h2, by rw [h3]; exact m.flat c (.bl _)⟩
def gDIn (neg : Bool) (a b : Vl) : Option Vl := match b.d, keyOf a.d with
  | .dict kvs, some k => if b.s = .mp .fz then some (.f (.bool (if neg = true then !(dGet kvs k).isSome else (dGet kvs k).isSome))) else none
  | _, _ => none
theorem din_ok {kvs : List (PyData × PyData)} {k : Key} (o1 : Opd G C H x w1) (o2 : Opd G C H y w2) (e1 : keyOf w1.d = some k) (e2 : w2.d = .dict kvs) (hs : w2.s = .mp .fz) : ∃ a o, y = .ref a ∧ DGet H a x o ∧ o.isSome = (dGet kvs k).isSome := by
  obtain ⟨s', a, ks, ds, f, es, rfl, rfl, hd, ow⟩ := o2.dic e2
  rw [hs] at es
  cases es
  have ev := o1.flat (keyOf_kD e1) (kD_flat k)
  rw [kD_val] at ev
  subst ev
  refine ⟨a, valV ks k, rfl, DGet.k hd, ?_⟩
  rcases dGet_ok (k := k) ow with ⟨z1, z2⟩ | ⟨d, v, z1, z2, _⟩
  · rw [z1, z2] <;> rfl
  · rw [z1, z2] <;> rfl
theorem sem_din (ha : SemE G W ta fa) (hb : SemE G W tb fb) : SemE G W (tDIn ta tb) (fOp (gDIn false) fa fb) := fun p s σ H Q r0 post => by
  refine ha.bind (P := PoE G p σ Q W) (fun z => z) r0 post (fun _ _ z => z) fun h1 s1 v1 H1 post r1 => ?_
  refine hb.bind (P := PoE G p σ Q W) (fun z => z) r1 post (fun _ _ z => PoX.pop z) fun h2 s2 v2 H2 post r2 => ?_
  unfold look2 at post
  split at post
  · rename_i w1 w2 e1 e2
    split at post
    · rename_i w e
      obtain ⟨F, r2⟩ := r2
      have q1 := r2.opd two_at.1 e1
      have q2 := r2.opd two_at.2 e2
      unfold gDIn at e
      split at e
      · rename_i kvs k d1 d2
        split at e
        · rename_i hs
          cases e
          obtain ⟨a, o, rfl, hd, ho⟩ := din_ok q1 q2 d2 d1 hs
          refine ⟨a, o, rfl, hd, ?_⟩
          rw [List.append_assoc] at r2
          rw [ho]
          exact post _ H2 (r2.resF (.bl _))
        · cases e
      · cases e
    · exact post.elim
  · exact post.elim
theorem sem_dnin (ha : SemE G W ta fa) (hb : SemE G W tb fb) : SemE G W (tDNotIn ta tb) (fOp (gDIn true) fa fb) := fun p s σ H Q r0 post => by
  refine ha.bind (P := PoE G p σ Q W) (fun z => z) r0 post (fun _ _ z => z) fun h1 s1 v1 H1 post r1 => ?_
  refine hb.bind (P := PoE G p σ Q W) (fun z => z) r1 post (fun _ _ z => PoX.pop z) fun h2 s2 v2 H2 post r2 => ?_
  unfold look2 at post
  split at post
  · rename_i w1 w2 e1 e2
    split at post
    · rename_i w e
      obtain ⟨F, r2⟩ := r2
      have q1 := r2.opd two_at.1 e1
      have q2 := r2.opd two_at.2 e2
      unfold gDIn at e
      split at e
      · rename_i kvs k d1 d2
        split at e
        · rename_i hs
          cases e
          obtain ⟨a, o, rfl, hd, ho⟩ := din_ok q1 q2 d2 d1 hs
          refine ⟨a, o, rfl, hd, ?_⟩
          rw [List.append_assoc] at r2
          rw [ho]
          exact post _ H2 (r2.resF (.bl _))
        · cases e
      · cases e
    · exact post.elim
  · exact post.elim
def gIn2 (a b : Vl) : Option Vl := match b.d with
  | .dict _ => gDIn false a b
  | _ => gIn a b
def gNin2 (a b : Vl) : Option Vl := match b.d with
  | .dict _ => gDIn true a b
  | _ => gNin a b
theorem sem_in (ha : SemE G W ta fa) (hb : SemE G W tb fb) : SemE G W (fun σ H Q => tOp (rInG G.K) ta tb σ H Q ∨ tDIn ta tb σ H Q) (fOp gIn2 fa fb) := by
  refine sem_eor (sem_op ops_in ha hb) (sem_din ha hb) fun a b => ?_
  unfold gIn2
  split
  · exact Or.inr rfl
  · exact Or.inl rfl
theorem sem_nin (ha : SemE G W ta fa) (hb : SemE G W tb fb) : SemE G W (fun σ H Q => tOp (rNinG G.K) ta tb σ H Q ∨ tDNotIn ta tb σ H Q) (fOp gNin2 fa fb) := by
  refine sem_eor (sem_op ops_nin ha hb) (sem_dnin ha hb) fun a b => ?_
  unfold gNin2
  split
  · exact Or.inr rfl
  · exact Or.inl rfl
end
end Z
/-! # slices; what is walked; stores; lists' methods -/
namespace Z
open PySem PySem.Spec PyProof.Rows L2 GxR
section
variable {G : Fr} {W : WX} {p q : Pd} {s s' : Sta} {σ σ' : L2.St} {H H' : Hp} {F : Ix → List Addr} {v x y : V} {w w1 w2 : Vl} {d : PyData} {ds : List PyData} {h : Hd} {hs : List Hd} {vs : List V} {ws : List Vl} {i j : Nat} {C : Addr → Prop} {Q : VK} {tr : TA} {fr : FA} {te ta tb tc : TE} {fe fa fb fc : FE}
/-! ### slices -/
abbrev FO := Sta → Rs (Option Int)
def PoO (G : Fr) (p : Pd) (σ : L2.St) (W : WX) (Q : Option Int → Hp → Prop) : Rs (Option Int) → Prop
  | .ok o s' => ∀ H', RL G p s' σ H' → Q o H'
  | .ex e s' => PoX G p σ W e s'
  | .no => False
def SemO (G : Fr) (W : WX) (t : TO) (f : FO) : Prop := ∀ p s σ H (Q : Option Int → Hp → Prop), RL G p s σ H → PoO G p σ W Q (f s) → t σ H Q
def fNoP : FO := fun s => .ok none s
def fPart (fe : FE) : FO := fun s => (fe s).bind fun h s1 => match lookH s1 h with
  | some ⟨.int i, _, _⟩ => .ok (some i) s1
  | _ => .no
theorem sem_nop : SemO G W tNoPart fNoP := fun p s σ H Q r post => post H r
theorem sem_part (he : SemE G W te fe) : SemO G W (tPart te) (fPart fe) := fun p s σ H Q r post => by
  refine he.bind (P := PoO G p σ W Q) (fun z => z) r post (fun _ _ z => z) fun h s1 v H1 post r1 => ?_
  split at post
  · rename_i i sh l e
    obtain ⟨F, r1⟩ := r1
    have o := r1.opd getp_new e
    exact ⟨i, o.flat rfl rfl, post H1 r1.rl.popN⟩
  · exact post.elim
def cutD (xs : List PyData) (lo hi : Option Int) : List PyData := (xs.drop (HT.sIx xs.length 0 lo)).take (HT.sIx xs.length xs.length hi - HT.sIx xs.length 0 lo)
theorem RpAll.take {K : PySem.W.Frag} : ∀ {vs : List V} {ds : List PyData} (n : Nat), RpAll K C H vs ds → RpAll K C H (vs.take n) (ds.take n)
  | _, _, 0, _ => .nil
  | _, _, n + 1, .nil => .nil
  | _, _, n + 1, .cons a b => .cons a (RpAll.take n b)
theorem RpAll.drop {K : PySem.W.Frag} : ∀ {vs : List V} {ds : List PyData} (n : Nat), RpAll K C H vs ds → RpAll K C H (vs.drop n) (ds.drop n)
  | _, _, 0, r => r
  | _, _, n + 1, .nil => .nil
  | _, _, n + 1, .cons a b => RpAll.drop n b
theorem RpAll.cut {K : PySem.W.Frag} (r : RpAll K C H vs ds) (lo hi : Option Int) : RpAll K C H (cutV vs lo hi) (cutD ds lo hi) := by
  unfold cutV cutD
  rw [r.len]
  exact (r.drop _).take _
def rSlF (K : PySem.W.Frag) : V → Option Int → Option Int → Hp → VK → Prop := fun x lo hi H Q => rSlL K x lo hi H Q ∨ rSlA K x lo hi H Q ∨ rSlS x lo hi H Q
theorem sl_F {X : Cx} : SlR X (rSlF X.K) := SlR.or sl_list (SlR.or sl_tupA sl_str)
def gSlice (a : Vl) (lo hi : Option Int) : Option Vl := match a.d with
  | .list ds => if rdItems a.s = true then some ⟨.list (cutD ds lo hi), .ls .fz, false⟩ else none
  | .tuple ds => some (.f (.tuple (cutD ds lo hi)))
  | .str x => if x.length ≤ sizeLine then some (.f (.str (cutS x lo hi))) else none
  | _ => none
theorem sl_ok {lo hi : Option Int} (c : Cok G C H) (o1 : Opd G C H x w1) (e : gSlice w1 lo hi = some w) (m : Made G C H Q w) : rSlF G.K x lo hi H Q := by
  unfold gSlice at e
  split at e
  · rename_i ds e1
    split at e
    · rename_i hz
      cases e
      obtain ⟨a, vs, rfl, sq, l, k⟩ := o1.seq e1
      exact Or.inl ⟨a, vs, rfl, sq, fun q hq => m.lst c ((k (rdItems_or hz)).cut lo hi) hq⟩
    · cases e
  · rename_i ds e1
    cases e
    obtain ⟨a, vs, rfl, st, r⟩ := o1.tup e1
    refine Or.inr (Or.inl ⟨a, vs, rfl, st.sq, fun z => m.flat c ?_, fun _ q hq => m.tup c (r.cut lo hi) hq⟩)
    have e : cutD ds lo hi = ds := by
      unfold cutD
      rw [← r.len, z.1, z.2, List.drop_zero, Nat.sub_zero, r.len, List.take_length]
    rw [e]
    exact .tup st r
  · rename_i z e1
    split at e
    · rename_i hz
      cases e
      rw [o1.flat e1 rfl]
      exact Or.inr (Or.inr ⟨z, rfl, hz, m.flat c (.str _)⟩)
    · cases e
  · cases e
def fSlice (fe : FE) (fl fh : FO) : FE := fun s => (fe s).bind fun h s1 => (fl s1).bind fun lo s2 => (fh s2).bind fun hi s3 => match lookH s3 h with
  | some w => (match gSlice w lo hi with
    | some w => .ok (.val w) s3
    | none => .no)
  | none => .no
theorem SemO.bind {β : Type} {t : TO} {f : FO} {QO : Option Int → Hp → Prop} (ht : SemO G W t f) {k : Option Int → Sta → Rs β} {P : Rs β → Prop} (no : ¬ P .no) (r : RL G p s σ H) (post : P ((f s).bind k)) (exc : ∀ e s', P (.ex e s') → PoX G p σ W e s') (go : ∀ o s' H', P (k o s') → RL G p s' σ H' → QO o H') : t σ H QO := by
  refine ht p s σ H QO r ?_
  cases e : f s with
  | no =>
    rw [e] at post
    exact no post
  | ok o s' =>
    rw [e] at post
    exact fun H' r' => go o s' H' post r'
  | ex x s' =>
    rw [e] at post
    exact exc x s' post
theorem sem_slice {tl th : TO} {fl fh : FO} (he : SemE G W te fe) (hl : SemO G W tl fl) (hh : SemO G W th fh) : SemE G W (tSl (rSlF G.K) te tl th) (fSlice fe fl fh) := fun p s σ H Q r0 post => by
  refine he.bind (P := PoE G p σ Q W) (fun z => z) r0 post (fun _ _ z => z) fun h s1 v H1 post r1 => ?_
  refine hl.bind (P := PoE G p σ Q W) (fun z => z) r1 post (fun _ _ z => PoX.pop z) fun lo s2 H2 post r2 => ?_
  refine hh.bind (P := PoE G p σ Q W) (fun z => z) r2 post (fun _ _ z => PoX.pop z) fun hi s3 H3 post r3 => ?_
  split at post
  · rename_i w1 e1
    split at post
    · rename_i w e
      obtain ⟨F, r3⟩ := r3
      exact sl_ok r3.cok (r3.opd getp_new e1) e (r3.made post)
    · exact post.elim
  · exact post.elim
/-! ### what is walked -/
/-- what a handle shows, to be walked -/
def fWalk (fe : FE) : Sta → Rs (List PyData) := fun s => (fe s).bind fun h s1 => match takeFz s1 h with
  | some (.list ds, s2) => .ok ds s2
  | some (.tuple ds, s2) => .ok ds s2
  | some (.str x, s2) => .ok (x.cps.toList.map fun c => .str ⟨#[c]⟩) s2
  | _ => .no
def PoI (G : Fr) (p : Pd) (σ : L2.St) (W : WX) (R : It → Hp → Prop) : Rs (List PyData) → Prop
  | .ok ds s' => ∀ q J H', RL G (p ++ q) s' σ H' → Walks G p q J ds → R J H'
  | .ex e s' => PoX G p σ W e s'
  | .no => False
theorem semi_of {wi : TI} {fi : Sta → Rs (List PyData)} (h : ∀ p s σ H (R : It → Hp → Prop), RL G p s σ H → PoI G p σ W R (fi s) → wi σ H R) : SemI G W wi fi := fun p s σ H R r post => by
  refine h p s σ H R r ?_
  cases e : fi s with
  | no =>
    rw [e] at post
    exact post
  | ok ds s' =>
    rw [e] at post
    exact post
  | ex x s' =>
    rw [e] at post
    exact post
theorem NoS.one : NoS [(v, vf d)] := fun j v i z => by
  cases j with
  | zero => simp at z
  | succ j => simp at z
theorem RL.own2 {z : Pd} (r : RL G (p ++ [(v, vf d)] ++ z) s σ H) : ∃ F, RLw G (p ++ [(v, vf d)] ++ z) s σ H F ∧ Rp G.K (CF G F) H v d := by
  obtain ⟨F, r⟩ := r
  have at_ : (p ++ [(v, vf d)] ++ z)[p.length]? = some (v, vf d) := by
    rw [List.append_assoc, List.getElem?_append_right (Nat.le_refl _), Nat.sub_self]
    rfl
  exact ⟨F, r, (r.own (.pd p.length) v (.f d) at_).2⟩
theorem RL.own1 (r : RL G (p ++ [(v, vf d)]) s σ H) : ∃ F, RLw G (p ++ [(v, vf d)]) s σ H F ∧ Rp G.K (CF G F) H v d := by
  obtain ⟨F, r⟩ := r
  exact ⟨F, r, (r.own (.pd p.length) v (.f d) getp_new).2⟩
theorem set_last {q' : V × Hd} : (p ++ [(v, h)]).set p.length q' = p ++ [q'] := by
  rw [List.set_append_right _ _ (Nat.le_refl _), Nat.sub_self]
  rfl
theorem walks_list {a : Addr} (hv : v = .ref a) : Walks G p [(v, vf (.list ds))] (Itl G.K a) ds where
  ns := NoS.one
  stop := fun z i H s σ r l => by
    replace l := Nat.le_of_eq l.symm
    obtain ⟨F, r, rp⟩ := r.own2
    subst hv
    cases rp with
    | lst st ra => exact ⟨_, st.sq, by rw [ra.len]; exact l⟩
  go := fun z i H s σ r l => by
    obtain ⟨F, r, rp⟩ := r.own2
    subst hv
    cases rp with
    | @lst _ xs _ st ra => exact ⟨xs, xs[i]'(by rw [ra.len]; exact l), st.sq, List.getElem?_eq_getElem _⟩
  yld := fun z i H s σ d x H' r e y => by
    obtain ⟨F, r, rp⟩ := r.own2
    obtain ⟨rfl, hx⟩ := y
    subst hv
    cases rp with
    | lst st ra =>
      obtain ⟨v, h1, h2⟩ := ra.get e
      have := hx _ st.sq
      rw [h1] at this
      cases this
      exact ⟨F, r.push h2⟩
theorem walks_tup {a : Addr} (hv : v = .ref a) : Walks G p [(v, vf (.tuple ds))] (Itt G.K a) ds where
  ns := NoS.one
  stop := fun z i H s σ r l => by
    replace l := Nat.le_of_eq l.symm
    obtain ⟨F, r, rp⟩ := r.own2
    subst hv
    cases rp with
    | tup st ra => exact ⟨_, st.sq, by rw [ra.len]; exact l⟩
  go := fun z i H s σ r l => by
    obtain ⟨F, r, rp⟩ := r.own2
    subst hv
    cases rp with
    | @tup _ xs _ st ra => exact ⟨xs, xs[i]'(by rw [ra.len]; exact l), st.sq, List.getElem?_eq_getElem _⟩
  yld := fun z i H s σ d x H' r e y => by
    obtain ⟨F, r, rp⟩ := r.own2
    obtain ⟨rfl, hx⟩ := y
    subst hv
    cases rp with
    | tup st ra =>
      obtain ⟨v, h1, h2⟩ := ra.get e
      have := hx _ st.sq
      rw [h1] at this
      cases this
      exact ⟨F, r.push h2⟩
theorem walks_str {z : Str} : Walks G p [] (Its z) (z.cps.toList.map fun c => .str ⟨#[c]⟩) where
  ns := fun j v i z => by simp at z
  stop := fun _ i H s σ r l => by
    replace l := Nat.le_of_eq l.symm
    have l' : z.cps.size ≤ i := by simpa using l
    exact l'
  go := fun _ i H s σ r l => by
    have l' : i < z.cps.size := by simpa using l
    exact l'
  yld := fun _ i H s σ d x H' r e y => by
    obtain ⟨rfl, c, hc, rfl⟩ := y
    have e' : d = .str ⟨#[c]⟩ := by
      rw [List.getElem?_map] at e
      have : z.cps.toList[i]? = some c := by simpa using hc
      rw [this] at e
      exact (Option.some.inj e).symm
    rw [e']
    exact r.pushF fun _ => .str _
/-- for x in e: a list, a tuple, a text -/
def iSeq (K : PySem.W.Frag) (te : TE) : TI := fun σ H R => iList K te σ H R ∨ iTup K te σ H R ∨ iStr te σ H R
theorem pi_seq {X : Cx} {tg e : Expr} {te : TE} (h1 : PI X tg e (iList X.K te)) (h2 : PI X tg e (iTup X.K te)) (h3 : PI X tg e (iStr te)) : PI X tg e (iSeq X.K te) := ⟨fun pins s σ H R I q => by
  rcases q with q | q | q
  · exact h1.run pins s σ H R I q
  · exact h2.run pins s σ H R I q
  · exact h3.run pins s σ H R I q⟩
theorem sem_seqI (he : SemE G W te fe) : SemI G W (iSeq G.K te) (fWalk fe) := semi_of fun p s σ H R r post => by
  unfold fWalk at post
  cases e : fe s with
  | no =>
    rw [e] at post
    exact post.elim
  | ex x s' =>
    rw [e] at post
    exact Or.inl (he p s σ H _ r (by rw [e]; exact post))
  | ok h s1 =>
    rw [e] at post
    have use : ∀ {QV : VK}, (∀ v H', RL G (p ++ [(v, h)]) s1 σ H' → QV v H') → te σ H QV := fun k => he p s σ H _ r (by rw [e]; exact k)
    replace post : PoI G p σ W R (match takeFz s1 h with
      | some (.list ds, s2) => .ok ds s2
      | some (.tuple ds, s2) => .ok ds s2
      | some (.str x, s2) => .ok (x.cps.toList.map fun c => .str ⟨#[c]⟩) s2
      | _ => .no) := post
    split at post
    · rename_i ds s2 t
      refine Or.inl (use fun v H1 r1 => ?_)
      obtain ⟨F, r1⟩ := r1
      obtain ⟨F2, r2⟩ := r1.take getp_new t
      rw [set_last] at r2
      obtain ⟨F3, r3, rp⟩ := RL.own1 ⟨F2, r2⟩
      obtain ⟨a, rfl⟩ : ∃ a, v = .ref a := by
        cases rp with
        | lst _ _ => exact ⟨_, rfl⟩
      refine ⟨a, rfl, ?_, post _ _ H1 ⟨F2, r2⟩ (walks_list rfl)⟩
      cases rp with
      | lst st _ => exact ⟨_, st.sq⟩
    · rename_i ds s2 t
      refine Or.inr (Or.inl (use fun v H1 r1 => ?_))
      obtain ⟨F, r1⟩ := r1
      obtain ⟨F2, r2⟩ := r1.take getp_new t
      rw [set_last] at r2
      obtain ⟨F3, r3, rp⟩ := RL.own1 ⟨F2, r2⟩
      obtain ⟨a, rfl⟩ : ∃ a, v = .ref a := by
        cases rp with
        | tup _ _ => exact ⟨_, rfl⟩
      refine ⟨a, rfl, ?_, post _ _ H1 ⟨F2, r2⟩ (walks_tup rfl)⟩
      cases rp with
      | tup st _ => exact ⟨_, st.sq⟩
    · rename_i z s2 t
      refine Or.inr (Or.inr (use fun v H1 r1 => ?_))
      obtain ⟨F, r1⟩ := r1
      obtain ⟨F2, r2⟩ := r1.take getp_new t
      rw [set_last] at r2
      obtain ⟨F3, r3, rp⟩ := RL.own1 ⟨F2, r2⟩
      refine ⟨z, rp.eq_str, post [] _ H1 ?_ walks_str⟩
      rw [List.append_nil]
      exact r2.rl.popN
    · exact post.elim
/-- range(n), range(a, b) -/
def intsR (lo : Int) (n : Nat) : List PyData := (List.range n).map fun (i : Nat) => PyData.int (lo + (i : Int))
theorem intsR_at {lo : Int} {n i : Nat} (h : (intsR lo n)[i]? = some d) : d = .int (lo + (i : Int)) := by
  unfold intsR at h
  rw [List.getElem?_map] at h
  cases e : (List.range n)[i]? with
  | none =>
    rw [e] at h
    cases h
  | some k =>
    rw [e] at h
    have := (List.getElem?_eq_some_iff.mp e).2
    rw [List.getElem_range] at this
    rw [← this] at h
    exact (Option.some.inj h).symm
theorem intsR_len {lo : Int} {n : Nat} : (intsR lo n).length = n := by simp [intsR]
theorem walks_rng {lo : Int} {n : Nat} : Walks G p [] (Itr lo n) (intsR lo n) where
  ns := fun j v i z => by simp at z
  stop := fun _ i H s σ r l => by
    replace l := Nat.le_of_eq l.symm
    rw [intsR_len] at l
    exact l
  go := fun _ i H s σ r l => by
    rw [intsR_len] at l
    exact l
  yld := fun _ i H s σ d x H' r e y => by
    obtain ⟨rfl, rfl⟩ := y
    rw [intsR_at e]
    exact r.pushF fun _ => .int _
def okRg (i : Int) : Bool := decide (-(2 ^ 62) ≤ i) && decide (i < 2 ^ 62)
theorem okRg_ok {i : Int} (h : okRg i = true) : -(2 ^ 62) ≤ i ∧ i < 2 ^ 62 := by
  unfold okRg at h
  simp only [Bool.and_eq_true, decide_eq_true_eq] at h
  exact h
def fRng (fr : FA) : Sta → Rs (List PyData) := fun s => (fr s).bind fun hs s1 => match argsOf s1 hs with
  | some [⟨.int j, _, _⟩] => if okRg j = true then .ok (intsR 0 j.toNat) s1 else .no
  | some [⟨.int i, _, _⟩, ⟨.int j, _, _⟩] => if okRg i = true ∧ okRg j = true then .ok (intsR i (j - i).toNat) s1 else .no
  | _ => .no
theorem sem_rng1 (ha : SemA G W tr fr) : SemI G W (iRng1 tr) (fun s => (fr s).bind fun hs s1 => match argsOf s1 hs with
    | some [⟨.int j, _, _⟩] => if okRg j = true then .ok (intsR 0 j.toNat) s1 else .no
    | _ => .no) := semi_of fun p s σ H R r0 post => by
  refine ha.bind (P := PoI G p σ W R) (fun z => z) r0 post (fun _ _ z => z) fun hs s1 vs H1 post l r1 => ?_
  split at post
  · rename_i j sh l' e
    split at post
    · rename_i hb
      obtain ⟨F, r1⟩ := r1
      obtain ⟨v, rfl, o⟩ := opd1 (r1.opds l e)
      rw [o.flat rfl rfl]
      refine ⟨j, rfl, (okRg_ok hb).1, (okRg_ok hb).2, post [] _ H1 ?_ walks_rng⟩
      rw [List.append_nil]
      exact r1.rl.popN
    · exact post.elim
  · exact post.elim
theorem sem_rng2 (ha : SemA G W tr fr) : SemI G W (iRng2 tr) (fun s => (fr s).bind fun hs s1 => match argsOf s1 hs with
    | some [⟨.int i, _, _⟩, ⟨.int j, _, _⟩] => if okRg i = true ∧ okRg j = true then .ok (intsR i (j - i).toNat) s1 else .no
    | _ => .no) := semi_of fun p s σ H R r0 post => by
  refine ha.bind (P := PoI G p σ W R) (fun z => z) r0 post (fun _ _ z => z) fun hs s1 vs H1 post l r1 => ?_
  split at post
  · rename_i i sh l' j sh2 l2 e
    split at post
    · rename_i hb
      obtain ⟨F, r1⟩ := r1
      obtain ⟨v1, v2, rfl, o1, o2⟩ := opd2 (r1.opds l e)
      rw [o1.flat rfl rfl, o2.flat rfl rfl]
      have h1 := okRg_ok hb.1
      have h2 := okRg_ok hb.2
      refine ⟨i, j, rfl, ⟨h1.1, h1.2, h2.1, h2.2⟩, post [] _ H1 ?_ walks_rng⟩
      rw [List.append_nil]
      exact r1.rl.popN
    · exact post.elim
  · exact post.elim
/-! ### a list of one's own changes -/
/-- the root x is a list of one's own, its items for good: it holds others now -/
theorem RLw.mut {p' : Pd} {a : Addr} {us : List V} (r : RLw G p s σ H F) {x : Ix} (hx : Rt p s σ x (.ref a) ⟨.list ds, .ls .fz, w.l⟩) {es : List PyData} (ra : RpAll G.K (CF G F) H us es) (roots : ∀ y v w, y ≠ x → Rt p' s' σ y v w → Rt p s σ y v w) (stay : ∀ y v w, y ≠ x → Rt p s σ y v w → Rt p' s' σ y v w)
    (at_x : ∀ v' w', Rt p' s' σ x v' w' → v' = .ref a ∧ w'.d = .list es ∧ w'.s = .ls .fz) (is_x : ∃ v' w', Rt p' s' σ x v' w') (wf : Wf G p' s' σ) : RLw G p' s' σ (upd H a (.lst us)) F := by
  have o := r.own x _ _ hx
  obtain ⟨a', vs, ds', f, e1, e2, e3, ow, e4⟩ := o
  cases e1
  cases e2
  obtain ⟨rfl, _⟩ := ow.fz
  have ha : a ∈ F x := by
    rw [e4]
    exact List.mem_cons_self
  have ncs := r.ncs ha
  have same : Fs F x (F x) = F := Fs_self
  have q := r.chg (p' := p') (s' := s') (σ' := σ) (H' := upd H a (.lst us)) x (F x) (fun b o e n _ => by rw [upd_ne fun z => n (by rw [z]; exact ha)]; exact e) (fun b hb => by
      by_cases z : b = a
      · rw [z]
        exact ⟨_, upd_same⟩
      · rw [upd_ne z]
        exact r.there hb) (fun P hP => by
      obtain ⟨ps, e, t⟩ := (r.tab P hP).2
      exact ⟨ps, by rw [upd_ne fun z => ncs (by rw [← z]; exact hP)]; exact e, t⟩) (fun b hb => Or.inl hb) (r.nod x) (fun y v w n q => Or.inl (roots y v w n q)) (fun y v w n q _ => ⟨v, w, stay y v w n q⟩) (fun v' w' q => ?_) (fun _ => is_x) wf
  · rw [same] at q
    exact q
  · obtain ⟨rfl, e5, e6⟩ := at_x v' w' q
    rw [same, e5, e6, e4]
    refine ⟨a, us, es, [], rfl, rfl, upd_same, OwL.of_fz (ra.mv ⟨fun b o e n => ⟨?_, n⟩⟩), rfl⟩
    rw [upd_ne fun z => n (Or.inr ⟨x, by rw [z]; exact ha⟩)]
    exact e
/-- a slot's list -/
theorem RLw.mutS {a : Addr} {us : List V} {l : Bool} (r : RLw G p s σ H F) (hv : σ[i]? = some (some (.ref a))) (hw : s.sl[i]? = some (some ⟨.list ds, .ls .fz, l⟩)) {es : List PyData} (ra : RpAll G.K (CF G F) H us es) : RLw G p (s.set i ⟨.list es, .ls .fz, l⟩) σ (upd H a (.lst us)) F := by
  refine r.mut (w := ⟨.list ds, .ls .fz, l⟩) (x := .sl i) ⟨hv, hw⟩ ra (fun y v w n q => ?_) (fun y v w n q => ?_) (fun v' w' q => ?_) ⟨.ref a, _, hv, slset_at hw⟩ ⟨r.wf.hd, by simpa [Sta.set] using r.wf.len, fun k w' q => ?_, fun k w' q hl => ?_, r.wf.xs⟩
  · cases y with
    | pd k => exact q
    | sl k =>
      rcases slset q.2 with ⟨rfl, _⟩ | ⟨_, q2⟩
      · exact (n rfl).elim
      · exact ⟨q.1, q2⟩
  · cases y with
    | pd k => exact q
    | sl k =>
      have n' : k ≠ i := fun z => n (by rw [z])
      exact ⟨q.1, (List.getElem?_set_ne fun z => n' z.symm).trans q.2⟩
  · have q2 : (s.sl.set i (some ⟨.list es, .ls .fz, l⟩))[i]? = some (some w') := q.2
    rw [slset_at hw] at q2
    injection q2 with q2
    injection q2 with q2
    subst q2
    have e3 := hv.symm.trans q.1
    injection e3 with e3
    injection e3 with e3
    exact ⟨e3.symm, rfl, rfl⟩
  · rcases slset q with ⟨rfl, _⟩ | ⟨_, q⟩
    · exact ⟨_, hv⟩
    · exact r.wf.slv k w' q
  · rcases slset q with ⟨rfl, z⟩ | ⟨_, q⟩
    · cases z
      exact r.wf.lent k _ hw hl
    · exact r.wf.lent k w' q hl
/-- xs.append(e) -/
def fApp (i : Nat) (fr : FA) : FE := fun s => match ownAt s i with
  | some ⟨.list _, .ls .fz, _⟩ => (fr s).bind fun hs s1 => (match hs with
    | [h] => (match takeFz s1 h with
      | some (d, s2) => (match ownAt s2 i with
        | some ⟨.list ds, .ls .fz, l⟩ => if ds.length < 100000 then .ok (vf .none) (s2.set i ⟨.list (ds ++ [d]), .ls .fz, l⟩) else .no
        | _ => .no)
      | none => .no)
    | _ => .no)
  | _ => .no
theorem own_list (r : RLw G p s σ H F) {l : Bool} (e : ownAt s i = some ⟨.list ds, .ls .fz, l⟩) (hv : σ[i]? = some (some v)) : ∃ a vs, v = .ref a ∧ H a = some (.lst vs) ∧ RpAll G.K (CF G F) H vs ds := by
  have o := r.own (.sl i) v _ ⟨hv, (ownAt_some e).1⟩
  obtain ⟨a, vs, ds', f, e1, e2, e3, ow, _⟩ := o
  cases e2
  exact ⟨a, vs, e1, e3, ow.fz.2⟩
theorem sem_app (n : i ∉ G.cv) (ha : SemA G W tr fr) : SemE G W (tBM G.K "list" rAppend (tVar i) tr) (fApp i fr) := fun p s σ H Q r0 post => by
  obtain ⟨F, r0⟩ := r0
  unfold fApp at post
  split at post
  · rename_i ds0 l0 e0
    obtain ⟨v, hv⟩ := r0.wf.slv i _ (ownAt_some e0).1
    have rS := r0.pushS hv n
    obtain ⟨a, vs0, rfl, ha0, _⟩ := own_list r0 e0 hv
    refine ⟨_, hv, ty_list (SqL.of ha0), ?_⟩
    refine ha.bind (P := PoE G p σ Q W) (fun z => z) rS.rl post (fun _ _ z => PoX.pop z) fun hs s1 vs H1 post l r1 => ?_
    split at post
    · rename_i h
      split at post
      · rename_i d s2 t
        split at post
        · rename_i ds l2 e2
          split at post
          · rename_i hz
            match vs, l with
            | [y], _ =>
              obtain ⟨F1, r1⟩ := r1
              have r1' : RLw G (p ++ [(.ref a, .slot i)] ++ [(y, h)]) s1 σ H1 F1 := r1
              obtain ⟨F2, r2⟩ := r1'.take getp_new t
              rw [set_last] at r2
              obtain ⟨a', vs2, e4, ha2, ra⟩ := own_list r2 e2 hv
              cases e4
              have ry := (r2.own (.pd (p ++ [(V.ref a, Hd.slot i)]).length) y (.f d) getp_new).2
              have r3 := r2.mutS hv (ownAt_some e2).1 (ra.app (.cons ry .nil))
              refine ⟨a, vs2, y, rfl, rfl, ha2, Nat.lt_of_lt_of_le (by rw [ra.len]; exact hz) (show 100000 ≤ sizeLine by decide), post _ _ ?_⟩
              rw [List.append_assoc] at r3
              exact r3.rl.popN.pushF fun _ => .non
          · exact post.elim
        · exact post.elim
      · exact post.elim
    · exact post.elim
  · exact post.elim
/-- xs.extend(ys), ys a list -/
def fExt (i : Nat) (fr : FA) : FE := fun s => match ownAt s i with
  | some ⟨.list _, .ls .fz, _⟩ => (fr s).bind fun hs s1 => (match hs with
    | [h] => (match takeFz s1 h with
      | some (.list es, s2) => (match ownAt s2 i with
        | some ⟨.list ds, .ls .fz, l⟩ => if ds.length + es.length ≤ 100000 then .ok (vf .none) (s2.set i ⟨.list (ds ++ es), .ls .fz, l⟩) else .no
        | _ => .no)
      | _ => .no)
    | _ => .no)
  | _ => .no
theorem sem_ext (n : i ∉ G.cv) (ha : SemA G W tr fr) : SemE G W (tBM G.K "list" rExtend (tVar i) tr) (fExt i fr) := fun p s σ H Q r0 post => by
  obtain ⟨F, r0⟩ := r0
  unfold fExt at post
  split at post
  · rename_i ds0 l0 e0
    obtain ⟨v, hv⟩ := r0.wf.slv i _ (ownAt_some e0).1
    have rS := r0.pushS hv n
    obtain ⟨a, vs0, rfl, ha0, _⟩ := own_list r0 e0 hv
    refine ⟨_, hv, ty_list (SqL.of ha0), ?_⟩
    refine ha.bind (P := PoE G p σ Q W) (fun z => z) rS.rl post (fun _ _ z => PoX.pop z) fun hs s1 vs H1 post l r1 => ?_
    split at post
    · rename_i h
      split at post
      · rename_i es s2 t
        split at post
        · rename_i ds l2 e2
          split at post
          · rename_i hz
            match vs, l with
            | [y], _ =>
              obtain ⟨F1, r1⟩ := r1
              have r1' : RLw G (p ++ [(.ref a, .slot i)] ++ [(y, h)]) s1 σ H1 F1 := r1
              obtain ⟨F2, r2⟩ := r1'.take getp_new t
              rw [set_last] at r2
              obtain ⟨a', vs2, e4, ha2, ra⟩ := own_list r2 e2 hv
              cases e4
              have ry := (r2.own (.pd (p ++ [(V.ref a, Hd.slot i)]).length) y (.f (.list es)) getp_new).2
              cases ry with
              | @lst b zs _ st rb =>
                have r3 := r2.mutS hv (ownAt_some e2).1 (ra.app rb)
                refine ⟨a, b, vs2, zs, rfl, rfl, ha2, st.2, by rw [ra.len, rb.len]; exact small_of hz, post _ _ ?_⟩
                rw [List.append_assoc] at r3
                exact r3.rl.popN.pushF fun _ => .non
          · exact post.elim
        · exact post.elim
      · exact post.elim
    · exact post.elim
  · exact post.elim
/-- xs[k] = e -/
def fgSet (i : Nat) (fk : FE) : Sta → Hd → Option Sta := fun s h => match ownAt s i with
  | some ⟨.list _, .ls .fz, _⟩ => (match fk s with
    | .ok hk s1 => (match lookH s1 hk, takeFz s1 h with
      | some ⟨.int k, _, _⟩, some (d, s2) => (match ownAt s2 i with
        | some ⟨.list ds, .ls .fz, l⟩ => (match ixN ds.length k with
          | some j => some (s2.set i ⟨.list (ds.set j d), .ls .fz, l⟩)
          | none => none)
        | _ => none)
      | _, _ => none)
    | _ => none)
  | _ => none
theorem RpAll.set {K : PySem.W.Frag} : ∀ {vs : List V} {ds : List PyData} (j : Nat), RpAll K C H vs ds → Rp K C H v d → RpAll K C H (vs.set j v) (ds.set j d)
  | _, _, _, .nil, _ => .nil
  | _, _, 0, .cons _ b, r => .cons r b
  | _, _, j + 1, .cons a b, r => .cons a (RpAll.set j b r)
theorem semg_set {ti : TE} {fk : FE} (n : i ∉ G.cv) (hk : ∀ W, SemE G W ti fk) : SemG G [] (gSub (tVar i) ti rSetL) (fgSet i fk) := fun p s σ H v h s' Q ns r e k => by
  obtain ⟨F, r0⟩ := r
  unfold fgSet at e
  split at e
  · rename_i ds0 l0 e0
    obtain ⟨v0, hv⟩ := r0.wf.slv i _ (ownAt_some e0).1
    have rS := r0.pushS hv n
    obtain ⟨a, vs0, rfl, ha0, _⟩ := own_list r0 e0 hv
    split at e
    · rename_i hk1 s1 q
      refine ⟨_, hv, ?_⟩
      refine hk (fun _ _ _ _ => False) _ s σ H _ rS.rl ?_
      rw [q]
      intro kv H1 r1
      split at e
      · rename_i kk shk lk d s2 ek t
        split at e
        · rename_i ds l2 e2
          split at e
          · rename_i j ej
            cases e
            obtain ⟨F1, r1⟩ := r1
            have ok := r1.opd getp_new ek
            rw [ok.flat rfl rfl]
            have r1p := r1.rl.popN
            obtain ⟨F1', r1p⟩ := r1p
            have at_v : (p ++ [(v, h)] ++ [(V.ref a, Hd.slot i)])[p.length]? = some (v, h) := two_at.1
            obtain ⟨F2, r2⟩ := r1p.take at_v t
            have e5 : (p ++ [(v, h)] ++ [(V.ref a, Hd.slot i)]).set p.length (v, .val (.f d)) = p ++ [(v, vf d)] ++ [(V.ref a, Hd.slot i)] := by
              rw [List.append_assoc, List.set_append_right _ _ (Nat.le_refl _), Nat.sub_self, List.append_assoc]
              rfl
            rw [e5] at r2
            obtain ⟨a', vs2, e4, ha2, ra⟩ := own_list r2 e2 hv
            cases e4
            have ry := (r2.own (.pd p.length) v (.f d) two_at.1).2
            have r3 := r2.mutS hv (ownAt_some e2).1 (ra.set j ry)
            refine ⟨a, vs2, kk, j, rfl, rfl, ha2, by rw [ra.len]; exact ej, k _ _ Only.refl ?_⟩
            rw [List.append_assoc] at r3
            exact r3.rl.popN
          · cases e
        · cases e
      · cases e
    · cases e
  · cases e
end
end Z
/-! # comprehensions -/
namespace Z
open PySem PySem.Spec PyProof.Rows L2 GxR
def wipeL (l : List (Option Vl)) : List Nat → List (Option Vl)
  | [] => l
  | v :: vs => (wipeL l vs).set v none
def wipeS (s : Sta) (vs : List Nat) : Sta := ⟨wipeL s.sl vs, s.ob⟩
section
variable {G : Fr} {W : WX} {p q : Pd} {s s' : Sta} {σ σ' : L2.St} {H H' : Hp} {F : Ix → List Addr} {v x y : V} {w w1 w2 : Vl} {d : PyData} {ds : List PyData} {h : Hd} {vs : List Nat} {i j : Nat} {C : Addr → Prop} {Q : VK} {te : TE} {fe : FE} {tt : TT} {ft : FT}
theorem wipeL_len {l : List (Option Vl)} : ∀ {vs : List Nat}, (wipeL l vs).length = l.length
  | [] => rfl
  | v :: vs => by
    show ((wipeL l vs).set v none).length = _
    rw [List.length_set, wipeL_len]
theorem wipeL_at {l : List (Option Vl)} : ∀ {vs : List Nat} {w : Vl}, (wipeL l vs)[i]? = some (some w) → i ∉ vs ∧ l[i]? = some (some w)
  | [], w, e => ⟨(fun h => by cases h), e⟩
  | v :: vs, w, e => by
    have e' : ((wipeL l vs).set v none)[i]? = some (some w) := e
    rcases slset e' with ⟨_, z⟩ | ⟨n, z⟩
    · cases z
    · obtain ⟨h1, h2⟩ := wipeL_at z
      exact ⟨fun m => (List.mem_cons.mp m).elim n h1, h2⟩
theorem wipe_at {l : L2.St} : ∀ {vs : List Nat}, i ∉ vs → (wipe l vs)[i]? = l[i]?
  | [], _ => rfl
  | v :: vs, n => by
    show ((wipe l vs).set v none)[i]? = _
    rw [List.getElem?_set_ne fun z => n (by rw [z]; exact List.mem_cons_self), wipe_at fun h => n (List.mem_cons_of_mem _ h)]
theorem wipe_in {l : L2.St} : ∀ {vs : List Nat}, i ∈ vs → i < l.length → (wipe l vs)[i]? = some none
  | [], h, _ => by cases h
  | v :: vs, h, l' => by
    show ((wipe l vs).set v none)[i]? = _
    by_cases e : v = i
    · rw [e, List.getElem?_set_self (by rw [wipe_length]; exact l')]
    · rw [List.getElem?_set_ne e]
      rcases List.mem_cons.mp h with h | h
      · exact (e h.symm).elim
      · exact wipe_in h l'
theorem wipe_only {T : List Nat} (o : Only T (wipe σ vs) σ') (sub : ∀ i ∈ T, i ∈ vs) : wipe σ' vs = wipe σ vs := by
  refine List.ext_getElem? fun i => ?_
  have l : σ'.length = σ.length := o.1.trans (wipe_length σ vs)
  by_cases h : i ∈ vs
  · by_cases k : i < σ.length
    · rw [wipe_in h (by rw [l]; exact k), wipe_in h k]
    · rw [List.getElem?_eq_none (by rw [wipe_length]; omega), List.getElem?_eq_none (by rw [wipe_length]; omega)]
  · rw [wipe_at h, o.2 i fun t => h (sub i t)]
/-- slots of which nothing is known may hold anything -/
theorem RL.slots (hx : G.xp σ → G.xp σ') (r : RL G p s σ H) (hl : σ'.length = s'.sl.length) (keep : ∀ (i : Nat) w, s'.sl[i]? = some (some w) → s.sl[i]? = some (some w) ∧ σ'[i]? = σ[i]?) (hh : ∀ (j : Nat) v i, p[j]? = some (v, .slot i) → σ'[i]? = σ[i]?) : RL G p s' σ' H := by
  obtain ⟨F, r⟩ := r
  refine ⟨_, r.reix (p' := p) (s' := s') (σ' := σ') id (fun x v w z => ?_) (fun x y _ _ _ _ _ _ _ e => e) ⟨fun j v i z => ?_, hl, fun i w z => ?_, fun i w z l => ?_, hx r.wf.xs⟩⟩
  · cases x with
    | pd j => exact ⟨w, z, rfl, rfl⟩
    | sl i =>
      obtain ⟨z1, z2⟩ := z
      obtain ⟨k1, k2⟩ := keep i w z2
      exact ⟨w, ⟨by rw [← k2]; exact z1, k1⟩, rfl, rfl⟩
  · rw [hh j v i z]
    exact r.wf.hd j v i z
  · obtain ⟨k1, k2⟩ := keep i w z
    rw [k2]
    exact r.wf.slv i w k1
  · obtain ⟨k1, k2⟩ := keep i w z
    rw [k2]
    exact r.wf.lent i w k1 l
theorem RL.cvs (r : RL G p s σ H) (sub : ∀ i ∈ vs, i ∈ G.cv) : Safe p vs := fun j v k z m => by
  obtain ⟨F, r⟩ := r
  exact (r.wf.hd j v k z).2 (sub k m)
theorem RL.wipe (hx : XD G vs) (r : RL G p s σ H) (sub : ∀ i ∈ vs, i ∈ G.cv) (o : ∀ i, i ∉ vs → σ'[i]? = σ[i]?) (hl : σ'.length = σ.length) : RL G p (wipeS s vs) σ' H := by
  have sf := r.cvs sub
  have len : σ.length = s.sl.length := by
    obtain ⟨F, r⟩ := r
    exact r.wf.len
  refine r.slots (hx σ σ' o) (by rw [hl, len]; exact (wipeL_len).symm) (fun i w z => ?_) fun j v i z => o i (sf j v i z)
  obtain ⟨n, e⟩ := wipeL_at z
  exact ⟨e, o i n⟩
/-- a new empty list -/
theorem RL.newL (r : RL G p s σ H) {D : Addr} (hD : H D = none) : RL G (p ++ [(.ref D, .val ⟨.list [], .ls .fz, false⟩)]) s σ (upd H D (.lst [])) := by
  obtain ⟨F, r⟩ := r
  have r' : RLw G (p ++ []) s σ H F := by
    rw [List.append_nil]
    exact r
  exact Made.lst (Q := fun v H' => RL G (p ++ [(v, .val ⟨.list [], .ls .fz, false⟩)]) s σ H') (vs := []) r.cok (fun v H' f a b c d o => r'.res a b c d o) .nil hD
theorem RL.newD (r : RL G p s σ H) {D : Addr} (hD : H D = none) : RL G (p ++ [(.ref D, .val ⟨.dict [], .mp .fz, false⟩)]) s σ (upd H D (.dK [])) := by
  obtain ⟨F, r⟩ := r
  have up : ∀ a o, H a = some o → upd H D (.dK []) a = some o := fun a o e => by
    rw [upd_ne (ne_of_none e hD)]
    exact e
  refine ⟨_, r.pushN (w := ⟨.dict [], .mp .fz, false⟩) (f := [D]) (fun a o e _ => up a o e) (fun P hP => ?_) (fun a ha => by rw [List.mem_singleton.mp ha]; exact hD) (by simp) ⟨D, [], [], [], rfl, rfl, upd_same, .nil, rfl⟩⟩
  obtain ⟨ps, e, t⟩ := (r.tab P hP).2
  exact ⟨ps, up _ _ e, t⟩
/-! ### lists -/
/-- within a comprehension nothing may be raised -/
def Rs.bnd {α β : Type} : Rs α → (α → Sta → Rs β) → Rs β
  | .ok a s, k => k a s
  | _, _ => .no
abbrev W0 : WX := fun _ _ _ _ => False
theorem SemE.bnd {β : Type} (he : SemE G W0 te fe) {k : Hd → Sta → Rs β} {P : Rs β → Prop} (no : ¬ P .no) (r : RL G p s σ H) (post : P ((fe s).bnd k)) (go : ∀ hd s' v H', P (k hd s') → RL G (p ++ [(v, hd)]) s' σ H' → Q v H') : te σ H Q := by
  refine he p s σ H Q r ?_
  cases e : fe s with
  | no =>
    rw [e] at post
    exact no post
  | ok hd s' =>
    rw [e] at post
    exact fun v H' r' => go hd s' v H' post r'
  | ex x s' =>
    rw [e] at post
    exact (no post).elim
theorem SemT.bnd {β : Type} {QB : Bool → Hp → Prop} (he : SemT G W0 tt ft) {k : Bool → Sta → Rs β} {P : Rs β → Prop} (no : ¬ P .no) (r : RL G p s σ H) (post : P ((ft s).bnd k)) (go : ∀ b s' H', P (k b s') → RL G p s' σ H' → QB b H') : tt σ H QB := by
  refine he p s σ H QB r ?_
  cases e : ft s with
  | no =>
    rw [e] at post
    exact no post
  | ok b s' =>
    rw [e] at post
    exact fun H' r' => go b s' H' post r'
  | ex x s' =>
    rw [e] at post
    exact (no post).elim
def lcF (fg : Sta → Hd → Option Sta) (ft : FT) (fe : FE) (vs : List Nat) : List PyData → List PyData → Sta → Rs (List PyData)
  | [], acc, s => .ok acc s
  | d :: ds, acc, s => match fg s (vf d) with
    | none => .no
    | some s1 => (ft s1).bnd fun b s2 => if b = true then (fe s2).bnd fun h s3 => (match takeFz s3 h with
      | some (y, s4) => if acc.length < 100000 then lcF fg ft fe vs ds (acc ++ [y]) (wipeS s4 vs) else .no
      | none => .no) else lcF fg ft fe vs ds acc (wipeS s2 vs)
def fLc (fi : Sta → Rs (List PyData)) (fg : Sta → Hd → Option Sta) (ft : FT) (fe : FE) (vs : List Nat) : FE := fun s => (fi s).bind fun ds s1 => (lcF fg ft fe vs ds [] (wipeS s1 vs)).bnd fun acc s2 => .ok (.val ⟨.list acc, .ls .fz, false⟩) s2
def fYes : FT := fun s => .ok true s
theorem sem_yes : SemT G W tYes fYes := fun p s σ H Q r post => post H r
/-- the list that grows, on the pile -/
theorem RLw.mutP {D : Addr} {q' : Pd} {us : List V} {es : List PyData} (r : RLw G (p ++ [(.ref D, .val ⟨.list ds, .ls .fz, false⟩)] ++ q') s σ H F) (ra : RpAll G.K (CF G F) H us es) : RLw G (p ++ [(.ref D, .val ⟨.list es, .ls .fz, false⟩)] ++ q') s σ (upd H D (.lst us)) F := by
  have at_ : ∀ {e : V × Hd}, (p ++ [e] ++ q')[p.length]? = some e := fun {e} => by
    rw [List.append_assoc, List.getElem?_append_right (Nat.le_refl _), Nat.sub_self]
    rfl
  have off : ∀ {e e' : V × Hd} {k : Nat}, k ≠ p.length → (p ++ [e] ++ q')[k]? = (p ++ [e'] ++ q')[k]? := fun {e e' k} n => by
    by_cases l : k < p.length
    · rw [List.append_assoc, List.append_assoc, List.getElem?_append_left l, List.getElem?_append_left l]
    · have : p.length < k := by omega
      rw [List.getElem?_append_right (by simp; omega), List.getElem?_append_right (by simp; omega)]
      simp
  refine r.mut (w := ⟨.list ds, .ls .fz, false⟩) (x := .pd p.length) at_ ra (fun y v w n z => ?_) (fun y v w n z => ?_) (fun v' w' z => ?_) ⟨.ref D, _, at_⟩ ⟨fun j v i z => ?_, r.wf.len, r.wf.slv, r.wf.lent, r.wf.xs⟩
  · cases y with
    | sl k => exact z
    | pd k => exact (off fun e => n (by rw [e])).trans z
  · cases y with
    | sl k => exact z
    | pd k => exact (off fun e => n (by rw [e])).trans z
  · have z' : (p ++ [(V.ref D, Hd.val ⟨.list es, .ls .fz, false⟩)] ++ q')[p.length]? = some (v', .val w') := z
    rw [at_] at z'
    injection z' with z'
    injection z' with z1 z2
    injection z2 with z2
    subst z1 z2
    exact ⟨rfl, rfl, rfl⟩
  · by_cases e : j = p.length
    · rw [e, at_] at z
      injection z with z
      injection z with _ z
      cases z
    · exact r.wf.hd j v i ((off e).trans z)
theorem RLw.topL {D : Addr} {q' : Pd} (r : RLw G (p ++ [(.ref D, .val ⟨.list ds, .ls .fz, false⟩)] ++ q') s σ H F) : ∃ us, H D = some (.lst us) ∧ RpAll G.K (CF G F) H us ds := by
  have at_ : (p ++ [(V.ref D, Hd.val ⟨.list ds, .ls .fz, false⟩)] ++ q')[p.length]? = some (V.ref D, Hd.val ⟨.list ds, .ls .fz, false⟩) := by
    rw [List.append_assoc, List.getElem?_append_right (Nat.le_refl _), Nat.sub_self]
    rfl
  have o := r.own (.pd p.length) _ _ at_
  obtain ⟨a, us, ds', f, e1, e2, e3, ow, _⟩ := o
  cases e1
  cases e2
  exact ⟨us, e3, ow.fz.2⟩
theorem sem_lc {T : List Nat} {wi : TI} {fi : Sta → Rs (List PyData)} {g : TG} {fg : Sta → Hd → Option Sta} (hi : SemI G W wi fi) (hg : SemG G T g fg) (ht : SemT G W0 tt ft) (he : SemE G W0 te fe) (sub : ∀ i ∈ T, i ∈ vs) (cv : ∀ i ∈ vs, i ∈ G.cv) (hx : XD G vs) : SemE G W (tLc wi g tt te vs) (fLc fi fg ft fe vs) := fun p s σ H Q r0 post => by
  refine hi p s σ H _ r0 ?_
  unfold fLc at post
  cases e : fi s with
  | no =>
    rw [e] at post
    exact post
  | ex x s' =>
    rw [e] at post
    exact post
  | ok ds s1 =>
    rw [e] at post
    replace post : PoE G p σ Q W ((lcF fg ft fe vs ds [] (wipeS s1 vs)).bnd fun acc s2 => .ok (.val ⟨.list acc, .ls .fz, false⟩) s2) := post
    intro q J H1 r1 wk D hD
    have rD := r1.newL hD
    have start := rD.wipe hx (σ' := wipe σ vs) cv (fun i n => wipe_at n) (wipe_length σ vs)
    refine ⟨fun i m H' => m = ds.length - i ∧ i ≤ ds.length ∧ ∃ acc s', RL G (p ++ q ++ [(.ref D, .val ⟨.list acc, .ls .fz, false⟩)]) s' (wipe σ vs) H' ∧ (∀ (k : Nat) w, s'.sl[k]? = some (some w) → k ∉ vs) ∧
      PoE G p σ Q W ((lcF fg ft fe vs (ds.drop i) acc s').bnd fun acc s2 => .ok (.val ⟨.list acc, .ls .fz, false⟩) s2), ⟨ds.length, rfl, Nat.zero_le _, [], wipeS s1 vs, start, fun k w z => (wipeL_at z).1, post⟩, ?_⟩
    rintro i m H' ⟨rfl, hle, acc, s', r', clean, post⟩
    by_cases hl : i < ds.length
    · refine Or.inr ⟨wk.go _ i H' s' _ r' hl, fun H2 => ∃ acc s2, RL G (p ++ q ++ [(.ref D, .val ⟨.list acc, .ls .fz, false⟩)]) s2 (wipe σ vs) H2 ∧ (∀ (k : Nat) w, s2.sl[k]? = some (some w) → k ∉ vs) ∧
        PoE G p σ Q W ((lcF fg ft fe vs (ds.drop (i + 1)) acc s2).bnd fun acc s2 => .ok (.val ⟨.list acc, .ls .fz, false⟩) s2), fun H2 z => ⟨ds.length - (i + 1), by omega, rfl, by omega, z⟩, fun x H2 y => ?_⟩
      have r2 := wk.yld _ i H' s' _ ds[i] x H2 r' (List.getElem?_eq_getElem hl) y
      rw [List.drop_eq_getElem_cons hl] at post
      unfold lcF at post
      split at post
      · exact post.elim
      · rename_i s3 e3
        refine hg _ s' _ H2 x _ s3 _ (fun j v k z m => (r'.cvs cv) j v k z (sub k m)) r2 e3 fun σ3 H3 o3 r3 => ⟨wipe_only o3 sub, ?_⟩
        have back : ∀ {P : Pd} {s4 : Sta} {H4 : Hp}, RL G P s4 σ3 H4 → RL G P (wipeS s4 vs) (wipe σ vs) H4 := fun r4 => r4.wipe hx cv (fun k n => (o3.2 k fun t => n (sub k t)).symm) o3.1.symm
        refine ht.bnd (P := fun z : Rs (List PyData) => PoE G p σ Q W (z.bnd fun acc s2 => .ok (.val ⟨.list acc, .ls .fz, false⟩) s2)) (fun z => z) r3 post fun b s4 H4 post r4 => ?_
        cases b with
        | false => exact ⟨acc, wipeS s4 vs, back r4, fun k w z => (wipeL_at z).1, post⟩
        | true =>
          rw [if_pos rfl]
          refine he.bnd (P := fun z : Rs (List PyData) => PoE G p σ Q W (z.bnd fun acc s2 => .ok (.val ⟨.list acc, .ls .fz, false⟩) s2)) (fun z => z) r4 post fun h s5 v5 H5 post r5 => ?_
          split at post
          · rename_i y5 s6 t
            split at post
            · rename_i hz
              obtain ⟨F5, r5⟩ := r5
              obtain ⟨F6, r6⟩ := r5.take getp_new t
              rw [set_last] at r6
              obtain ⟨us, hu, ra⟩ := r6.topL
              have ry := (r6.own (.pd (p ++ q ++ [(V.ref D, Hd.val ⟨.list acc, .ls .fz, false⟩)]).length) v5 (.f y5) getp_new).2
              have r7 := r6.mutP (ra.app (.cons ry .nil))
              exact ⟨us, hu, Nat.lt_of_lt_of_le (by rw [ra.len]; exact hz) (show 100000 ≤ sizeLine by decide), acc ++ [y5], wipeS s6 vs, back r7.rl.popN, fun k w z => (wipeL_at z).1, post⟩
            · exact post.elim
          · exact post.elim
    · refine Or.inl ⟨wk.stop _ i H' s' _ r' (by omega), ?_⟩
      rw [List.drop_of_length_le (by omega)] at post
      have hlen : σ.length = s'.sl.length := by
        obtain ⟨F, r'⟩ := r'
        rw [← r'.wf.len, wipe_length]
      have sf := r'.cvs cv
      have r8 : RL G (p ++ q ++ [(.ref D, .val ⟨.list acc, .ls .fz, false⟩)]) s' σ H' := r'.slots (hx _ _ fun k n => (wipe_at n).symm) hlen (fun k w z => ⟨z, (wipe_at (clean k w z)).symm⟩) fun j v k z => (wipe_at (sf j v k z)).symm
      obtain ⟨F, r8⟩ := r8
      exact post _ _ r8.mid
end
end Z
/-! # dicts; texts by parts; errors raised, caught -/
namespace Z
open PySem PySem.Spec PyProof.Rows L2 GxR
/-- what a dict holds -/
inductive DR (K : PySem.W.Frag) (C : Addr → Prop) (H : Hp) : List (Key × V) → List (PyData × PyData) → Prop
  | nil : DR K C H [] []
  | cons {k : Key} {v : V} {d : PyData} {ks : List (Key × V)} {kvs : List (PyData × PyData)} : Rp K C H v d → DR K C H ks kvs → DR K C H ((k, v) :: ks) ((kD k, d) :: kvs)
def dPut (kvs : List (PyData × PyData)) (k : Key) (d : PyData) : List (PyData × PyData) :=
  if (kvs.any fun p => decide (keyOf p.1 = some k)) = true then kvs.map (fun p => if keyOf p.1 = some k then (p.1, d) else p) else kvs ++ [(kD k, d)]
section
variable {K : PySem.W.Frag} {C C' : Addr → Prop} {H H' : Hp} {ks : List (Key × V)} {kvs : List (PyData × PyData)} {k : Key} {v : V} {d : PyData}
theorem DR.of : ∀ {ks : List (Key × V)} {ds : List PyData} {f : List Addr}, OwL (Ow K C H .fz) (ks.map (·.2)) ds f → f = [] ∧ DR K C H ks ((ks.map fun p => kD p.1).zip ds)
  | [], _, _, .nil => ⟨rfl, .nil⟩
  | (k, v) :: ks, d :: ds, _, .cons a b => by
    obtain ⟨e1, r⟩ := a
    obtain ⟨e2, q⟩ := DR.of b
    subst e1 e2
    exact ⟨rfl, .cons r q⟩
theorem DR.to : ∀ {ks : List (Key × V)} {kvs : List (PyData × PyData)}, DR K C H ks kvs → ∃ ds, kvs = (ks.map fun p => kD p.1).zip ds ∧ OwL (Ow K C H .fz) (ks.map (·.2)) ds []
  | _, _, .nil => ⟨[], rfl, .nil⟩
  | _, _, .cons (d := d) a b => by
    obtain ⟨ds, e, o⟩ := DR.to b
    subst e
    exact ⟨d :: ds, rfl, .cons (f := []) ⟨rfl, a⟩ o⟩
theorem DR.mv (m : Mv C H C' H') : ∀ {ks : List (Key × V)} {kvs : List (PyData × PyData)}, DR K C H ks kvs → DR K C' H' ks kvs
  | _, _, .nil => .nil
  | _, _, .cons a b => .cons (a.mv m) (DR.mv m b)
theorem DR.app : ∀ {ks ls : List (Key × V)} {kvs lvs : List (PyData × PyData)}, DR K C H ks kvs → DR K C H ls lvs → DR K C H (ks ++ ls) (kvs ++ lvs)
  | _, _, _, _, .nil, q => q
  | _, _, _, _, .cons a b, q => .cons a (DR.app b q)
theorem DR.len : ∀ {ks : List (Key × V)} {kvs : List (PyData × PyData)}, DR K C H ks kvs → ks.length = kvs.length
  | _, _, .nil => rfl
  | _, _, .cons _ b => congrArg (· + 1) (DR.len b)
theorem keyOf_iff {k k' : Key} : keyOf (kD k') = some k ↔ k' = k := by
  rw [kD_keyOf]
  exact ⟨fun h => Option.some.inj h, fun h => congrArg some h⟩
theorem DR.any : ∀ {ks : List (Key × V)} {kvs : List (PyData × PyData)}, DR K C H ks kvs → (kvs.any fun p => decide (keyOf p.1 = some k)) = ks.any fun p => decide (p.1 = k)
  | _, _, .nil => rfl
  | _, _, .cons (k := k') a b => by
    rw [List.any_cons, List.any_cons, DR.any b]
    have e : decide (keyOf (kD k') = some k) = decide (k' = k) := by
      by_cases h : k' = k
      · rw [decide_eq_true h, decide_eq_true (keyOf_iff.mpr h)]
      · rw [decide_eq_false h, decide_eq_false fun z => h (keyOf_iff.mp z)]
    rw [e]
theorem DR.map (r : Rp K C H v d) : ∀ {ks : List (Key × V)} {kvs : List (PyData × PyData)}, DR K C H ks kvs → DR K C H (ks.map fun kv => if kv.1 = k then (kv.1, v) else kv) (kvs.map fun p => if keyOf p.1 = some k then (p.1, d) else p)
  | _, _, .nil => .nil
  | _, _, .cons (k := k') a b => by
    have ih := DR.map r b
    rw [List.map_cons, List.map_cons]
    by_cases h : k' = k
    · rw [if_pos h, if_pos (keyOf_iff.mpr h)]
      exact .cons r ih
    · rw [if_neg h, if_neg fun z => h (keyOf_iff.mp z)]
      exact .cons a ih
theorem DR.put (b : DR K C H ks kvs) (r : Rp K C H v d) : DR K C H (putK ks k v) (dPut kvs k d) := by
  unfold putK dPut
  rw [b.any]
  split
  · exact b.map r
  · exact b.app (.cons r .nil)
theorem put_len : (putK ks k v).length ≤ ks.length + 1 := by
  unfold putK
  split
  · rw [List.length_map]
    exact Nat.le_succ _
  · rw [List.length_append]
    exact Nat.le_refl _
end
section
variable {G : Fr} {W : WX} {p q : Pd} {s s' : Sta} {σ σ' : L2.St} {H H' : Hp} {F : Ix → List Addr} {v x y : V} {w w1 w2 : Vl} {d : PyData} {kvs : List (PyData × PyData)} {h : Hd} {vs : List Nat} {i j : Nat} {C : Addr → Prop} {Q : VK} {te ta tb tk tv : TE} {fe fa fb fk fv : FE} {tt : TT} {ft : FT}
/-- the root x is a dict of one's own: it holds others now -/
theorem RLw.mutD {p' : Pd} {a : Addr} {us : List (Key × V)} (r : RLw G p s σ H F) {x : Ix} {l : Bool} (hx : Rt p s σ x (.ref a) ⟨.dict kvs, .mp .fz, l⟩) {es : List (PyData × PyData)} (ra : DR G.K (CF G F) H us es) (roots : ∀ y v w, y ≠ x → Rt p' s' σ y v w → Rt p s σ y v w) (stay : ∀ y v w, y ≠ x → Rt p s σ y v w → Rt p' s' σ y v w)
    (at_x : ∀ v' w', Rt p' s' σ x v' w' → v' = .ref a ∧ w'.d = .dict es ∧ w'.s = .mp .fz) (is_x : ∃ v' w', Rt p' s' σ x v' w') (wf : Wf G p' s' σ) : RLw G p' s' σ (upd H a (.dK us)) F := by
  have o := r.own x _ _ hx
  obtain ⟨a', ks, ds', f, e1, e2, e3, ow, e4⟩ := o
  cases e1
  obtain ⟨rfl, _⟩ := DR.of ow
  have ha : a ∈ F x := by
    rw [e4]
    exact List.mem_cons_self
  have ncs := r.ncs ha
  have same : Fs F x (F x) = F := Fs_self
  have q := r.chg (p' := p') (s' := s') (σ' := σ) (H' := upd H a (.dK us)) x (F x) (fun b o e n _ => by rw [upd_ne fun z => n (by rw [z]; exact ha)]; exact e) (fun b hb => by
      by_cases z : b = a
      · rw [z]
        exact ⟨_, upd_same⟩
      · rw [upd_ne z]
        exact r.there hb) (fun P hP => by
      obtain ⟨ps, e, t⟩ := (r.tab P hP).2
      exact ⟨ps, by rw [upd_ne fun z => ncs (by rw [← z]; exact hP)]; exact e, t⟩) (fun b hb => Or.inl hb) (r.nod x) (fun y v w n q => Or.inl (roots y v w n q)) (fun y v w n q _ => ⟨v, w, stay y v w n q⟩) (fun v' w' q => ?_) (fun _ => is_x) wf
  · rw [same] at q
    exact q
  · obtain ⟨rfl, e5, e6⟩ := at_x v' w' q
    rw [same, e5, e6, e4]
    obtain ⟨ds, rfl, ow⟩ := (ra.mv (C' := CF G F) (H' := upd H a (.dK us)) ⟨fun b o e n => ⟨by rw [upd_ne fun z => n (Or.inr ⟨x, by rw [z]; exact ha⟩)]; exact e, n⟩⟩).to
    exact ⟨a, us, ds, [], rfl, rfl, upd_same, ow, rfl⟩
theorem own_dict {l : Bool} (r : RLw G p s σ H F) (e : ownAt s i = some ⟨.dict kvs, .mp .fz, l⟩) (hv : σ[i]? = some (some v)) : ∃ a ks, v = .ref a ∧ H a = some (.dK ks) ∧ DR G.K (CF G F) H ks kvs := by
  have o := r.own (.sl i) v _ ⟨hv, (ownAt_some e).1⟩
  obtain ⟨a, ks, ds', f, e1, e2, e3, ow, _⟩ := o
  injection e2 with e2
  subst e2
  exact ⟨a, ks, e1, e3, (DR.of ow).2⟩
theorem RLw.mutDS {a : Addr} {us : List (Key × V)} {l : Bool} (r : RLw G p s σ H F) (hv : σ[i]? = some (some (.ref a))) (hw : s.sl[i]? = some (some ⟨.dict kvs, .mp .fz, l⟩)) {es : List (PyData × PyData)} (ra : DR G.K (CF G F) H us es) : RLw G p (s.set i ⟨.dict es, .mp .fz, l⟩) σ (upd H a (.dK us)) F := by
  refine r.mutD (x := .sl i) ⟨hv, hw⟩ ra (fun y v w n q => ?_) (fun y v w n q => ?_) (fun v' w' q => ?_) ⟨.ref a, _, hv, slset_at hw⟩ ⟨r.wf.hd, by simpa [Sta.set] using r.wf.len, fun k w' q => ?_, fun k w' q hl => ?_, r.wf.xs⟩
  · cases y with
    | pd k => exact q
    | sl k =>
      rcases slset q.2 with ⟨rfl, _⟩ | ⟨_, q2⟩
      · exact (n rfl).elim
      · exact ⟨q.1, q2⟩
  · cases y with
    | pd k => exact q
    | sl k =>
      have n' : k ≠ i := fun z => n (by rw [z])
      exact ⟨q.1, (List.getElem?_set_ne fun z => n' z.symm).trans q.2⟩
  · have q2 : (s.sl.set i (some ⟨.dict es, .mp .fz, l⟩))[i]? = some (some w') := q.2
    rw [slset_at hw] at q2
    injection q2 with q2
    injection q2 with q2
    subst q2
    have e3 := hv.symm.trans q.1
    injection e3 with e3
    injection e3 with e3
    exact ⟨e3.symm, rfl, rfl⟩
  · rcases slset q with ⟨rfl, _⟩ | ⟨_, q⟩
    · exact ⟨_, hv⟩
    · exact r.wf.slv k w' q
  · rcases slset q with ⟨rfl, z⟩ | ⟨_, q⟩
    · cases z
      exact r.wf.lent k _ hw hl
    · exact r.wf.lent k w' q hl
/-! ### {} -/
def fDNew : FE := fun s => .ok (.val ⟨.dict [], .mp .fz, false⟩) s
theorem sem_dnew : SemE G W tDNewK fDNew := fun p s σ H Q r post => fun D hD => post _ _ (r.newD hD)
/-! ### comprehensions of dicts -/
def dcF (fg : Sta → Hd → Option Sta) (ft : FT) (fk fv : FE) (vs : List Nat) : List PyData → List (PyData × PyData) → Sta → Rs (List (PyData × PyData))
  | [], acc, s => .ok acc s
  | d :: ds, acc, s => match fg s (vf d) with
    | none => .no
    | some s1 => (ft s1).bnd fun b s2 => if b = true then (fk s2).bnd fun h1 s3 => (fv s3).bnd fun h2 s4 => (match (lookH s4 h1).bind (fun w => keyOf w.d), takeFz s4 h2 with
      | some k, some (y, s5) => if acc.length < 100000 then dcF fg ft fk fv vs ds (dPut acc k y) (wipeS s5 vs) else .no
      | _, _ => .no) else dcF fg ft fk fv vs ds acc (wipeS s2 vs)
def fDc (fi : Sta → Rs (List PyData)) (fg : Sta → Hd → Option Sta) (ft : FT) (fk fv : FE) (vs : List Nat) : FE := fun s => (fi s).bind fun ds s1 => (dcF fg ft fk fv vs ds [] (wipeS s1 vs)).bnd fun acc s2 => .ok (.val ⟨.dict acc, .mp .fz, false⟩) s2
theorem RLw.mutPD {D : Addr} {q' : Pd} {us : List (Key × V)} {es : List (PyData × PyData)} (r : RLw G (p ++ [(.ref D, .val ⟨.dict kvs, .mp .fz, false⟩)] ++ q') s σ H F) (ra : DR G.K (CF G F) H us es) : RLw G (p ++ [(.ref D, .val ⟨.dict es, .mp .fz, false⟩)] ++ q') s σ (upd H D (.dK us)) F := by
  have at_ : ∀ {e : V × Hd}, (p ++ [e] ++ q')[p.length]? = some e := fun {e} => by
    rw [List.append_assoc, List.getElem?_append_right (Nat.le_refl _), Nat.sub_self]
    rfl
  have off : ∀ {e e' : V × Hd} {k : Nat}, k ≠ p.length → (p ++ [e] ++ q')[k]? = (p ++ [e'] ++ q')[k]? := fun {e e' k} n => by
    by_cases l : k < p.length
    · rw [List.append_assoc, List.append_assoc, List.getElem?_append_left l, List.getElem?_append_left l]
    · have : p.length < k := by omega
      rw [List.getElem?_append_right (by simp; omega), List.getElem?_append_right (by simp; omega)]
      simp
  refine r.mutD (x := .pd p.length) at_ ra (fun y v w n z => ?_) (fun y v w n z => ?_) (fun v' w' z => ?_) ⟨.ref D, _, at_⟩ ⟨fun j v i z => ?_, r.wf.len, r.wf.slv, r.wf.lent, r.wf.xs⟩
  · cases y with
    | sl k => exact z
    | pd k => exact (off fun e => n (by rw [e])).trans z
  · cases y with
    | sl k => exact z
    | pd k => exact (off fun e => n (by rw [e])).trans z
  · have z' : (p ++ [(V.ref D, Hd.val ⟨.dict es, .mp .fz, false⟩)] ++ q')[p.length]? = some (v', .val w') := z
    rw [at_] at z'
    injection z' with z'
    injection z' with z1 z2
    injection z2 with z2
    subst z1 z2
    exact ⟨rfl, rfl, rfl⟩
  · by_cases e : j = p.length
    · rw [e, at_] at z
      injection z with z
      injection z with _ z
      cases z
    · exact r.wf.hd j v i ((off e).trans z)
theorem RLw.topD {D : Addr} {q' : Pd} (r : RLw G (p ++ [(.ref D, .val ⟨.dict kvs, .mp .fz, false⟩)] ++ q') s σ H F) : ∃ us, H D = some (.dK us) ∧ DR G.K (CF G F) H us kvs := by
  have at_ : (p ++ [(V.ref D, Hd.val ⟨.dict kvs, .mp .fz, false⟩)] ++ q')[p.length]? = some (V.ref D, Hd.val ⟨.dict kvs, .mp .fz, false⟩) := by
    rw [List.append_assoc, List.getElem?_append_right (Nat.le_refl _), Nat.sub_self]
    rfl
  have o := r.own (.pd p.length) _ _ at_
  obtain ⟨a, us, ds', f, e1, e2, e3, ow, _⟩ := o
  cases e1
  injection e2 with e2
  subst e2
  exact ⟨us, e3, (DR.of ow).2⟩
theorem sem_dc {T : List Nat} {wi : TI} {fi : Sta → Rs (List PyData)} {g : TG} {fg : Sta → Hd → Option Sta} (hi : SemI G W wi fi) (hg : SemG G T g fg) (ht : SemT G W0 tt ft) (hk : SemE G W0 tk fk) (hv : SemE G W0 tv fv) (sub : ∀ i ∈ T, i ∈ vs) (cv : ∀ i ∈ vs, i ∈ G.cv) (hx : XD G vs) : SemE G W (tDc wi g tt tk tv vs) (fDc fi fg ft fk fv vs) := fun p s σ H Q r0 post => by
  refine hi p s σ H _ r0 ?_
  unfold fDc at post
  cases e : fi s with
  | no =>
    rw [e] at post
    exact post
  | ex x s' =>
    rw [e] at post
    exact post
  | ok ds s1 =>
    rw [e] at post
    replace post : PoE G p σ Q W ((dcF fg ft fk fv vs ds [] (wipeS s1 vs)).bnd fun acc s2 => .ok (.val ⟨.dict acc, .mp .fz, false⟩) s2) := post
    intro q J H1 r1 wk D hD
    have rD := r1.newD hD
    have start := rD.wipe hx (σ' := wipe σ vs) cv (fun i n => wipe_at n) (wipe_length σ vs)
    refine ⟨fun i m H' => m = ds.length - i ∧ i ≤ ds.length ∧ ∃ acc s', RL G (p ++ q ++ [(.ref D, .val ⟨.dict acc, .mp .fz, false⟩)]) s' (wipe σ vs) H' ∧ (∀ (k : Nat) w, s'.sl[k]? = some (some w) → k ∉ vs) ∧
      PoE G p σ Q W ((dcF fg ft fk fv vs (ds.drop i) acc s').bnd fun acc s2 => .ok (.val ⟨.dict acc, .mp .fz, false⟩) s2), ⟨ds.length, rfl, Nat.zero_le _, [], wipeS s1 vs, start, fun k w z => (wipeL_at z).1, post⟩, ?_⟩
    rintro i m H' ⟨rfl, hle, acc, s', r', clean, post⟩
    by_cases hl : i < ds.length
    · refine Or.inr ⟨wk.go _ i H' s' _ r' hl, fun H2 => ∃ acc s2, RL G (p ++ q ++ [(.ref D, .val ⟨.dict acc, .mp .fz, false⟩)]) s2 (wipe σ vs) H2 ∧ (∀ (k : Nat) w, s2.sl[k]? = some (some w) → k ∉ vs) ∧
        PoE G p σ Q W ((dcF fg ft fk fv vs (ds.drop (i + 1)) acc s2).bnd fun acc s2 => .ok (.val ⟨.dict acc, .mp .fz, false⟩) s2), fun H2 z => ⟨ds.length - (i + 1), by omega, rfl, by omega, z⟩, fun x H2 y => ?_⟩
      have r2 := wk.yld _ i H' s' _ ds[i] x H2 r' (List.getElem?_eq_getElem hl) y
      rw [List.drop_eq_getElem_cons hl] at post
      unfold dcF at post
      split at post
      · exact post.elim
      · rename_i s3 e3
        refine hg _ s' _ H2 x _ s3 _ (fun j v k z m => (r'.cvs cv) j v k z (sub k m)) r2 e3 fun σ3 H3 o3 r3 => ⟨wipe_only o3 sub, ?_⟩
        have back : ∀ {P : Pd} {s4 : Sta} {H4 : Hp}, RL G P s4 σ3 H4 → RL G P (wipeS s4 vs) (wipe σ vs) H4 := fun r4 => r4.wipe hx cv (fun k n => (o3.2 k fun t => n (sub k t)).symm) o3.1.symm
        refine ht.bnd (P := fun z : Rs (List (PyData × PyData)) => PoE G p σ Q W (z.bnd fun acc s2 => .ok (.val ⟨.dict acc, .mp .fz, false⟩) s2)) (fun z => z) r3 post fun b s4 H4 post r4 => ?_
        cases b with
        | false => exact ⟨acc, wipeS s4 vs, back r4, fun k w z => (wipeL_at z).1, post⟩
        | true =>
          rw [if_pos rfl]
          refine hk.bnd (P := fun z : Rs (List (PyData × PyData)) => PoE G p σ Q W (z.bnd fun acc s2 => .ok (.val ⟨.dict acc, .mp .fz, false⟩) s2)) (fun z => z) r4 post fun h1 s5 v5 H5 post r5 => ?_
          refine hv.bnd (P := fun z : Rs (List (PyData × PyData)) => PoE G p σ Q W (z.bnd fun acc s2 => .ok (.val ⟨.dict acc, .mp .fz, false⟩) s2)) (fun z => z) r5 post fun h2 s6 v6 H6 post r6 => ?_
          split at post
          · rename_i k y s7 ek t
            split at post
            · rename_i hz
              cases lk : lookH s6 h1 with
              | none =>
                rw [lk] at ek
                cases ek
              | some w1 =>
                rw [lk] at ek
                have ek' : keyOf w1.d = some k := ek
                obtain ⟨F6, r6⟩ := r6
                have o1 := r6.opd two_at.1 lk
                have ev := o1.flat (keyOf_kD ek') (kD_flat k)
                rw [kD_val] at ev
                obtain ⟨F7, r7⟩ := r6.take getp_new t
                rw [set_last, List.append_assoc] at r7
                obtain ⟨us, hu, ra⟩ := r7.topD
                have at2 : (p ++ q ++ [(V.ref D, Hd.val ⟨.dict acc, .mp .fz, false⟩)] ++ ([(v5, h1)] ++ [(v6, vf y)]))[(p ++ q ++ [(V.ref D, Hd.val ⟨.dict acc, .mp .fz, false⟩)]).length + 1]? = some (v6, vf y) := by
                  rw [← List.append_assoc]
                  exact two_at.2
                have ry := (r7.own (.pd _) v6 (.f y) at2).2
                have r8 := r7.mutPD (ra.put (k := k) ry)
                exact ⟨us, k, ev, hu, Nat.lt_of_lt_of_le (by rw [ra.len]; exact hz) (show 100000 ≤ sizeLine by decide), dPut acc k y, wipeS s7 vs, back r8.rl.popN, fun k w z => (wipeL_at z).1, post⟩
            · exact post.elim
          · exact post.elim
    · refine Or.inl ⟨wk.stop _ i H' s' _ r' (by omega), ?_⟩
      rw [List.drop_of_length_le (by omega)] at post
      have hlen : σ.length = s'.sl.length := by
        obtain ⟨F, r'⟩ := r'
        rw [← r'.wf.len, wipe_length]
      have sf := r'.cvs cv
      have r8 : RL G (p ++ q ++ [(.ref D, .val ⟨.dict acc, .mp .fz, false⟩)]) s' σ H' := r'.slots (hx _ _ fun k n => (wipe_at n).symm) hlen (fun k w z => ⟨z, (wipe_at (clean k w z)).symm⟩) fun j v k z => (wipe_at (sf j v k z)).symm
      obtain ⟨F, r8⟩ := r8
      exact post _ _ r8.mid
/-! ### d[k] = v -/
def fDPut (i : Nat) (fk fv : FE) : FS := fun s => (fv s).bind fun h s1 => match ownAt s1 i with
  | some ⟨.dict _, .mp .fz, _⟩ => (fk s1).bind fun hk s2 => (match (lookH s2 hk).bind (fun w => keyOf w.d), takeFz s2 h with
    | some k, some (d, s3) => (match ownAt s3 i with
      | some ⟨.dict kvs, .mp .fz, l⟩ => if kvs.length < 100000 then .ok .nx (s3.set i ⟨.dict (dPut kvs k d), .mp .fz, l⟩) else .no
      | _ => .no)
    | _, _ => .no)
  | _ => .no
theorem sem_dput (n : i ∉ G.cv) (hk : SemE G W tk fk) (hv : SemE G W tv fv) : SemS G W (sDPut (tVar i) tk tv) (fDPut i fk fv) := fun p s σ H D ns r0 post => by
  refine hv.bindS (P := PoS G p D W) (fun z => z) r0 post (fun _ _ z => z) fun h s1 v1 H1 post r1 => ?_
  split at post
  · rename_i kvs0 l0 e0
    obtain ⟨F1, r1⟩ := r1
    obtain ⟨v, hvi⟩ := r1.wf.slv i _ (ownAt_some e0).1
    obtain ⟨a, ks0, rfl, ha0, _⟩ := own_dict r1 e0 hvi
    refine ⟨_, hvi, ?_⟩
    have rS := r1.pushS hvi n
    have exc : ∀ e s', PoS G p D W (.ex e s') → PoX G (p ++ [(v1, h)] ++ [(V.ref a, Hd.slot i)]) σ W e s' := fun e s' z => by
      rw [List.append_assoc]
      exact PoX.pop fun d H' r' => z d σ H' r'
    refine hk.bind (P := PoS G p D W) (fun z => z) rS.rl post exc fun hk1 s2 kv H2 post r2 => ?_
    split at post
    · rename_i k d s3 ek t
      split at post
      · rename_i kvs l2 e2
        split at post
        · rename_i hz
          cases lk : lookH s2 hk1 with
          | none =>
            rw [lk] at ek
            cases ek
          | some w1 =>
            rw [lk] at ek
            have ek' : keyOf w1.d = some k := ek
            obtain ⟨F2, r2⟩ := r2
            have o1 := r2.opd getp_new lk
            have ev := o1.flat (keyOf_kD ek') (kD_flat k)
            rw [kD_val] at ev
            obtain ⟨F2', r2p⟩ := r2.rl.popN
            have at_v : (p ++ [(v1, h)] ++ [(V.ref a, Hd.slot i)])[p.length]? = some (v1, h) := two_at.1
            obtain ⟨F3, r3⟩ := r2p.take at_v t
            have e5 : (p ++ [(v1, h)] ++ [(V.ref a, Hd.slot i)]).set p.length (v1, .val (.f d)) = p ++ [(v1, vf d)] ++ [(V.ref a, Hd.slot i)] := by
              rw [List.append_assoc, List.set_append_right _ _ (Nat.le_refl _), Nat.sub_self, List.append_assoc]
              rfl
            rw [e5] at r3
            obtain ⟨a', ks, e4, ha2, ra⟩ := own_dict r3 e2 hvi
            cases e4
            have ry := (r3.own (.pd p.length) v1 (.f d) two_at.1).2
            have r4 := r3.mutDS hvi (ownAt_some e2).1 (ra.put (k := k) ry)
            refine ⟨a, upd H2 a (.dK (putK ks k v1)), rfl, ?_, post σ _ ?_⟩
            · rw [ev]
              exact DPut.k ha2 (Nat.lt_of_lt_of_le (by rw [ra.len]; exact hz) (show 100000 ≤ sizeLine by decide))
            · rw [List.append_assoc] at r4
              exact r4.rl.popN
        · exact post.elim
      · exact post.elim
    · exact post.elim
  · exact post.elim
/-- one of two statements' readings -/
theorem ps_either {X : Cx} {st : Stmt} {t1 t2 : TS} (h1 : PS X st t1) (h2 : PS X st t2) : PS X st (fun D σ H => t1 D σ H ∨ t2 D σ H) := ⟨fun pins s σ H D I q => q.elim (h1.run pins s σ H D I) (h2.run pins s σ H D I)⟩
theorem sem_sor {t1 t2 : TS} {f1 f2 f : FS} (h1 : SemS G W t1 f1) (h2 : SemS G W t2 f2) (hf : ∀ s, f s = f1 s ∨ f s = f2 s) : SemS G W (fun D σ H => t1 D σ H ∨ t2 D σ H) f := fun p s σ H D ns r post => by
  rcases hf s with e | e
  · rw [e] at post
    exact Or.inl (h1 p s σ H D ns r post)
  · rw [e] at post
    exact Or.inr (h2 p s σ H D ns r post)
/-- x[k] = e, x a list or a dict, by what the slot holds -/
def fStore (i : Nat) (fk fe : FE) : FS := fun s => match ownAt s i with
  | some ⟨.dict _, _, _⟩ => fDPut i fk fe s
  | _ => fAsg fe (fgSet i fk) s
theorem sem_store (n : i ∉ G.cv) (hk : ∀ W, SemE G W tk fk) (he : SemE G W te fe) : SemS G W (fun D σ H => tAsg te (gSub (tVar i) tk rSetL) D σ H ∨ sDPut (tVar i) tk te D σ H) (fStore i fk fe) :=
  sem_sor (sem_asg he (semg_set n hk)) (sem_dput n (hk W) he) fun s => by
    unfold fStore
    split
    · exact Or.inr rfl
    · exact Or.inl rfl
end
end Z
/-! # methods of lists: one's own list by its slot; any list by its values -/
namespace Z
open PySem PySem.Spec PyProof.Rows L2 GxR
/-! ### a method that changes a list of one's own -/
/-- m: the items, the arguments ↦ what is handed back, the items behind -/
abbrev LM := List PyData → List PyData → Option (PyData × List PyData)
def MetS (G : Fr) (r : V → List V → Hp → VK → Prop) (m : LM) : Prop := ∀ (C : Addr → Prop) (H : Hp) (a : Addr) (vs xs : List V) (ds es ds' : List PyData) (d : PyData), H a = some (.lst vs) → RpAll G.K C H vs ds → RpAll G.K C H xs es → m ds es = some (d, ds') →
  ∃ us y, RpAll G.K C H us ds' ∧ Rp G.K C H y d ∧ ∀ Q : VK, Q y (upd H a (.lst us)) → r (.ref a) xs H Q
def fLm (i : Nat) (m : LM) (fr : FA) : FE := fun s => match ownAt s i with
  | some ⟨.list _, .ls .fz, _⟩ => (fr s).bind fun hs s1 => (match takeAll s1 hs with
    | some (es, s2) => (match ownAt s2 i with
      | some ⟨.list ds, .ls .fz, l⟩ => (match m ds es with
        | some (d, ds') => .ok (vf d) (s2.set i ⟨.list ds', .ls .fz, l⟩)
        | none => .no)
      | _ => .no)
    | none => .no)
  | _ => .no
section
variable {G : Fr} {W : WX} {p : Pd} {s : Sta} {σ : L2.St} {H : Hp} {i : Nat} {tr : TA} {fr : FA} {r : V → List V → Hp → VK → Prop} {m : LM}
theorem sem_lm (hm : MetS G r m) (n : i ∉ G.cv) (ha : SemA G W tr fr) : SemE G W (tBM G.K "list" r (tVar i) tr) (fLm i m fr) := fun p s σ H Q r0 post => by
  obtain ⟨F, r0⟩ := r0
  unfold fLm at post
  split at post
  · rename_i ds0 l0 e0
    obtain ⟨v, hv⟩ := r0.wf.slv i _ (ownAt_some e0).1
    have rS := r0.pushS hv n
    obtain ⟨a, vs0, rfl, ha0, _⟩ := own_list r0 e0 hv
    refine ⟨_, hv, ty_list (SqL.of ha0), ?_⟩
    refine ha.bind (P := PoE G p σ Q W) (fun z => z) rS.rl post (fun _ _ z => PoX.pop z) fun hs s1 vs H1 post l r1 => ?_
    split at post
    · rename_i es s2 t
      split at post
      · rename_i ds l2 e2
        split at post
        · rename_i d ds' em
          obtain ⟨F1, r1⟩ := r1
          obtain ⟨F2, r2, l2'⟩ := r1.takeAll l t
          obtain ⟨a', vs2, e4, ha2, ra⟩ := own_list r2 e2 hv
          cases e4
          have rx := r2.rps l2'
          obtain ⟨us, y, ru, ry, q⟩ := hm (CF G F2) H1 a vs2 vs ds es ds' d ha2 ra rx em
          have r3 := (r2.push ry).mutS hv (ownAt_some e2).1 ru
          refine q Q (post _ _ ?_)
          rw [List.append_assoc p] at r3
          exact r3.mid
        · exact post.elim
      · exact post.elim
    · exact post.elim
  · exact post.elim
theorem sem_lm0 (hm : MetS G r m) (n : i ∉ G.cv) : SemE G W (tBM0 G.K "list" r (tVar i)) (fLm i m fNil) := fun p s σ H Q r0 post => by
  have h := sem_lm (W := W) hm n (sem_nil (G := G) (W := W)) p s σ H Q r0 post
  obtain ⟨v, hv, ty, q⟩ := h
  exact ⟨v, hv, ty, q⟩
end
def mAppend : LM := fun ds es => match es with
  | [d] => if ds.length < 100000 then some (.none, ds ++ [d]) else none
  | _ => none
def mExtend : LM := fun ds es => match es with
  | [.list es] => if ds.length + es.length ≤ 100000 then some (.none, ds ++ es) else none
  | _ => none
def mInsert : LM := fun ds es => match es with
  | [.int i, d] => if 0 ≤ i ∧ i < 1000000 ∧ ds.length < 100000 then some (.none, ds.take i.toNat ++ [d] ++ ds.drop i.toNat) else none
  | _ => none
def mPopAt : LM := fun ds es => match es with
  | [.int i] => (match ixN ds.length i with
    | some k => (match ds[k]? with
      | some d => if -1000000 < i ∧ i < 1000000 then some (d, ds.eraseIdx k) else none
      | none => none)
    | none => none)
  | _ => none
def mPop : LM := fun ds es => match es with
  | [] => (match ds.getLast? with
    | some d => some (d, ds.dropLast)
    | none => none)
  | _ => none
section
variable {G : Fr} {K : PySem.W.Frag} {C : Addr → Prop} {H : Hp}
theorem RpAll.erase : ∀ {vs : List V} {ds : List PyData} (n : Nat), RpAll K C H vs ds → RpAll K C H (vs.eraseIdx n) (ds.eraseIdx n)
  | _, _, _, .nil => .nil
  | _, _, 0, .cons _ b => b
  | _, _, n + 1, .cons a b => .cons a (RpAll.erase n b)
theorem RpAll.dropLast {vs : List V} {ds : List PyData} (r : RpAll K C H vs ds) : RpAll K C H vs.dropLast ds.dropLast := by
  rw [List.dropLast_eq_take, List.dropLast_eq_take, r.len]
  exact r.take _
theorem RpAll.two' {vs : List V} {d e : PyData} (r : RpAll K C H vs [d, e]) : ∃ v w, vs = [v, w] ∧ Rp K C H v d ∧ Rp K C H w e := r.two
theorem met_append : MetS G rAppend mAppend := fun C H a vs xs ds es ds' d h r rx e => by
  unfold mAppend at e
  split at e
  · split at e
    · rename_i hz
      cases e
      obtain ⟨v, rfl, rv⟩ := rx.one
      exact ⟨vs ++ [v], .non, r.app (.cons rv .nil), .non, fun Q q => ⟨a, vs, v, rfl, rfl, h, Nat.lt_of_lt_of_le (by rw [r.len]; exact hz) (show 100000 ≤ sizeLine by decide), q⟩⟩
    · cases e
  · cases e
theorem met_extend : MetS G rExtend mExtend := fun C H a vs xs ds es ds' d h r rx e => by
  unfold mExtend at e
  split at e
  · split at e
    · rename_i hz
      cases e
      obtain ⟨v, rfl, rv⟩ := rx.one
      cases rv with
      | @lst b zs _ st rb => exact ⟨vs ++ zs, .non, r.app rb, .non, fun Q q => ⟨a, b, vs, zs, rfl, rfl, h, st.2, by rw [r.len, rb.len]; exact small_of hz, q⟩⟩
    · cases e
  · cases e
def rInsert : V → List V → Hp → VK → Prop := fun x vs H Q => ∃ (l : Addr) (xs : List V) (i : Int) (y : V), x = .ref l ∧ vs = [.int i, y] ∧ H l = some (.lst xs) ∧ xs.length < sizeLine ∧ 0 ≤ i ∧ i < 2 ^ 63 ∧ Q .non (upd H l (.lst (xs.take i.toNat ++ [y] ++ xs.drop i.toNat)))
theorem met_insert : MetS G rInsert mInsert := fun C H a vs xs ds es ds' d h r rx e => by
  unfold mInsert at e
  split at e
  · split at e
    · rename_i hz
      cases e
      obtain ⟨v, w, rfl, rv, rw_⟩ := rx.two
      have ev := rv.eq_int
      subst ev
      exact ⟨_, .non, ((r.take _).app (.cons rw_ .nil)).app (r.drop _), .non, fun Q q => ⟨a, vs, _, w, rfl, rfl, h, Nat.lt_of_lt_of_le (by rw [r.len]; exact hz.2.2) (show 100000 ≤ sizeLine by decide), hz.1, by omega, q⟩⟩
    · cases e
  · cases e
theorem met_popAt : MetS G rPopAt mPopAt := fun C H a vs xs ds es ds' d h r rx e => by
  unfold mPopAt at e
  split at e
  · split at e
    · rename_i k ek
      split at e
      · rename_i d0 ed
        split at e
        · rename_i hz
          cases e
          obtain ⟨v, rfl, rv⟩ := rx.one
          have ev := rv.eq_int
          subst ev
          obtain ⟨y, ey, ry⟩ := r.get ed
          obtain ⟨s1, s2, s3, s4⟩ := ixN_seq ek
          exact ⟨_, y, r.erase k, ry, fun Q q => ⟨a, vs, _, k, y, rfl, rfl, h, by omega, by omega, by rw [r.len]; exact s1, ey, q⟩⟩
        · cases e
      · cases e
    · cases e
  · cases e
theorem met_pop : MetS G rPop mPop := fun C H a vs xs ds es ds' d h r rx e => by
  unfold mPop at e
  split at e
  · split at e
    · rename_i d0 ed
      cases e
      have e2 : ds[ds.length - 1]? = some d := by rw [← List.getLast?_eq_getElem?]; exact ed
      obtain ⟨y, ey, ry⟩ := r.get e2
      cases rx
      exact ⟨_, y, r.dropLast, ry, fun Q q => ⟨a, vs, y, rfl, rfl, h, by rw [r.len]; exact ey, q⟩⟩
    · cases e
  · cases e
end
/-! ### a method by values: what it is called of is not changed -/
def kindT (T : String) (w : Vl) : Bool := match w.d with
  | .list _ => decide (T = "list") && (w.s.fzOk || decide (w.s = .rd))
  | .str _ => decide (T = "str")
  | .int _ => decide (T = "int")
  | .dict _ => decide (T = "dict") && decide (w.s = .mp .fz)
  | _ => false
def MetV (G : Fr) (r : V → List V → Hp → VK → Prop) (g : Vl → List Vl → Option Vl) : Prop := ∀ C H x xs w ws w' Q, Cok G C H → Opd G C H x w → OpdL G C H xs ws → g w ws = some w' → Made G C H Q w' → r x xs H Q
def fMv (T : String) (g : Vl → List Vl → Option Vl) (fo : FE) (fr : FA) : FE := fun s => (fo s).bind fun h s1 => match lookH s1 h with
  | some w1 => if kindT T w1 = true then (fr s1).bind fun hs s2 => (match lookH s2 h, argsOf s2 hs with
    | some w, some ws => (match g w ws with
      | some w' => .ok (.val w') s2
      | none => .no)
    | _, _ => .no) else .no
  | none => .no
section
variable {G : Fr} {W : WX} {C : Addr → Prop} {H : Hp} {v : V} {w : Vl} {T : String} {to : TE} {fo : FE} {tr : TA} {fr : FA} {r : V → List V → Hp → VK → Prop} {g : Vl → List Vl → Option Vl}
theorem Opd.ty (o : Opd G C H v w) (k : kindT T w = true) : tyV G.K T v H := by
  unfold kindT at k
  split at k
  · rename_i ds e
    simp only [Bool.and_eq_true, decide_eq_true_eq] at k
    obtain ⟨a, vs, rfl, sq, _⟩ := o.seq e
    rw [k.1]
    exact ty_list sq
  · rename_i x e
    have := of_decide_eq_true k
    rw [o.flat e rfl, this] <;> rfl
  · rename_i x e
    have := of_decide_eq_true k
    rw [o.flat e rfl, this] <;> rfl
  · rename_i kvs e
    simp only [Bool.and_eq_true, decide_eq_true_eq] at k
    obtain ⟨s, a, ks, ds, f, _, rfl, _, h, _⟩ := o.dic e
    rw [k.1]
    exact Or.inr (Or.inr (Or.inl ⟨rfl, Or.inl ⟨_, h⟩⟩))
  · cases k
theorem sem_mv (hm : MetV G r g) (ho : SemE G W to fo) (ha : SemA G W tr fr) : SemE G W (tBM G.K T r to tr) (fMv T g fo fr) := fun p s σ H Q r0 post => by
  refine ho.bind (P := PoE G p σ Q W) (fun z => z) r0 post (fun _ _ z => z) fun h s1 v1 H1 post r1 => ?_
  split at post
  · rename_i w1 e1
    split at post
    · rename_i hk
      have r1' := r1
      obtain ⟨F1, r1'⟩ := r1'
      refine ⟨(r1'.opd getp_new e1).ty hk, ?_⟩
      refine ha.bind (P := PoE G p σ Q W) (fun z => z) r1 post (fun _ _ z => PoX.pop z) fun hs s2 vs H2 post l r2 => ?_
      split at post
      · rename_i w ws ew ews
        split at post
        · rename_i w' eg
          obtain ⟨F, r2⟩ := r2
          have at_ : (p ++ [(v1, h)] ++ vs.zip hs)[p.length]? = some (v1, h) := by
            rw [List.append_assoc, List.getElem?_append_right (Nat.le_refl _), Nat.sub_self]
            rfl
          have o1 := r2.opd at_ ew
          have os := r2.opds l ews
          rw [List.append_assoc] at r2
          exact hm (CF G F) H2 v1 vs w ws w' Q r2.cok o1 os eg (r2.made post)
        · exact post.elim
      · exact post.elim
    · exact post.elim
  · exact post.elim
theorem sem_mv0 (hm : MetV G r g) (ho : SemE G W to fo) : SemE G W (tBM0 G.K T r to) (fMv T g fo fNil) := fun p s σ H Q r0 post => by
  refine ho.bind (P := PoE G p σ Q W) (fun z => z) r0 post (fun _ _ z => z) fun h s1 v1 H1 post r1 => ?_
  split at post
  · rename_i w1 e1
    split at post
    · rename_i hk
      obtain ⟨F1, r1⟩ := r1
      refine ⟨(r1.opd getp_new e1).ty hk, ?_⟩
      replace post : PoE G p σ Q W (match lookH s1 h, argsOf s1 [] with
        | some w, some ws => (match g w ws with
          | some w' => .ok (.val w') s1
          | none => .no)
        | _, _ => .no) := post
      split at post
      · rename_i w ws ew ews
        cases ews
        split at post
        · rename_i w' eg
          exact hm (CF G F1) H1 v1 [] w [] w' Q r1.cok (r1.opd getp_new ew) .nil eg (r1.made post)
        · exact post.elim
      · exact post.elim
    · exact post.elim
  · exact post.elim
end
/-! ### xs.index(y): flat items -/
/-- the first place -/
def posIn (y : V) : List V → Option Nat
  | [] => none
  | x :: xs => if eqV x y = true then some 0 else (posIn y xs).map (· + 1)
theorem posIn_ok {y : V} : ∀ {xs : List V} {j : Nat}, posIn y xs = some j → ∃ z, xs[j]? = some z ∧ eqV z y = true ∧ ∀ (m : Nat) z', m < j → xs[m]? = some z' → eqV z' y = false
  | [], j, e => by cases e
  | x :: xs, j, e => by
    unfold posIn at e
    split at e
    · rename_i h
      cases e
      exact ⟨x, rfl, h, fun m z' l => absurd l (Nat.not_lt_zero _)⟩
    · rename_i h
      cases q : posIn y xs with
      | none =>
        rw [q] at e
        cases e
      | some k =>
        rw [q] at e
        cases e
        obtain ⟨z, h1, h2, h3⟩ := posIn_ok q
        refine ⟨z, by simpa using h1, h2, fun m z' l hz => ?_⟩
        cases m with
        | zero =>
          have : x = z' := by simpa using hz
          rw [← this]
          cases q2 : eqV x y with
          | false => rfl
          | true => exact (h q2).elim
        | succ m => exact h3 m z' (Nat.lt_of_succ_lt_succ l) (by simpa using hz)
def gIndex (w : Vl) (ws : List Vl) : Option Vl := match w.d, ws with
  | .list ds, [a] => if rdItems w.s = true ∧ flatD a.d = true ∧ ds.all flatD = true then (posIn (valD a.d) (ds.map valD)).map fun j => .f (.int (j : Nat)) else none
  | _, _ => none
theorem met_index {G : Fr} : MetV G (rIndex G.K) gIndex := fun C H x xs w ws w' Q c o os e m => by
  unfold gIndex at e
  split at e
  · rename_i ds a e1
    split at e
    · rename_i hz
      cases q : posIn (valD a.d) (ds.map valD) with
      | none =>
        rw [q] at e
        cases e
      | some j =>
        rw [q] at e
        cases e
        obtain ⟨b, vs, rfl, sq, l, k⟩ := o.seq e1
        have r := k (rdItems_or hz.1)
        have ev := r.vals hz.2.2
        subst ev
        obtain ⟨v, rfl, oa⟩ := opd1 os
        rw [oa.flat rfl hz.2.1]
        obtain ⟨z, h1, h2, h3⟩ := posIn_ok q
        exact ⟨b, _, _, j, z, rfl, rfl, sq, flatV_of hz.2.1, flatVs_of hz.2.2, h1, h2, h3, m.flat c (.int _)⟩
    · cases e
  · cases e
end Z
/-! # enumerate, zip over lists and tuples -/
namespace PySem
open Sem (wp)
set_option maxHeartbeats 1000000 in
theorem meets_enumerate_newB1 {v : Value} {o : Obj} {H : Heap → Prop} (B : Begins v o H) :
    Meets (Builtin.«enumerate.__new__» ⟨[.type "enumerate", v], []⟩) (fun _ R s => H s.heap ∧
      R (.ok (.ret (.ref (s.heap.push o).objs.size))) { s with heap := (s.heap.push o).push { cls := .type "enumerate", data := .fields #[.none, .bool false, .ref s.heap.objs.size, rawInt 0, .none, .none] } }) :=
  .of_wp fun prog w A R s h => by
    obtain ⟨hp, g, d, tk, os⟩ := s; obtain ⟨h1, h⟩ := h
    have hsub := sub_enumerate
    have q1 : ∀ {A' : Around} {E : Value → Shared → Prop} {Q : Value → Shared → Prop}, Q (.ref hp.objs.size) ⟨hp.push o, g, d, tk, os⟩ → wpAny (model prog w) A' (pyIter v) Q E ⟨hp, g, d, tk, os⟩ :=
      fun q => B.iter prog w _ _ ⟨hp, g, d, tk, os⟩ _ h1 q
    wp_walk using q1
    refine wpAny_stack_any fun st => wpAny_pure ?_
    split
    · rename_i c _ _ _ _ _
      cases (c == Value.type "enumerate")
      · wp_walk using q1
        exact ⟨_, rfl, h⟩
      · wp_walk using q1
        exact ⟨_, rfl, h⟩
    · wp_walk using q1
      exact ⟨_, rfl, h⟩
section
variable {prog : Program} {w : World} {A : Around} {E : Value → Shared → Prop} {s : Shared}
theorem enum_begins1 {v : Value} {o : Obj} {H : Heap → Prop} {Q : Value → Shared → Prop} (B : Begins v o H) (h1 : H s.heap)
    (h : ∀ h', IsEnum h' (s.heap.objs.size + 1) s.heap.objs.size 0 .none → h'.get? s.heap.objs.size = some o → h'.objs.size = s.heap.objs.size + 2 →
      (∀ b o, s.heap.get? b = some o → h'.get? b = some o) → Q (.ref (s.heap.objs.size + 1)) { s with heap := h' }) :
    wpAny (model prog w) A (call (.type "enumerate") [v]) Q E s := by
  refine callType_new F.called_enumerate (by decide) (F.typeCall_enumerate_1 _) (F.newCall_enumerate_1 _) (fun obj => F.args_object_init_2 obj _) F.entry_enumerate_new
    (meets_enumerate_newB1 B) ⟨h1, ?_⟩
  have hz : (s.heap.push o).objs.size = s.heap.objs.size + 1 := Heap.size_push ..
  show _ ∧ _
  rw [hz]
  have he : IsEnum ((s.heap.push o).push { cls := .type "enumerate", data := .fields #[.none, .bool false, .ref s.heap.objs.size, rawInt 0, .none, .none] }) (s.heap.objs.size + 1) s.heap.objs.size 0 .none := by
    have := Heap.get?_push_size (s.heap.push o) (o := { cls := .type "enumerate", data := .fields #[.none, .bool false, .ref s.heap.objs.size, rawInt 0, .none, .none] }) rfl
    rw [hz] at this; exact this
  refine ⟨⟨_, he, rfl⟩, h _ he (Heap.get?_push_of_some _ (Heap.get?_push_size _ B.free)) (by rw [Heap.size_push, hz]) fun b o x => Heap.get?_push_of_some _ (Heap.get?_push_of_some _ x)⟩
end
end PySem
namespace Z
open PySem PySem.Spec PyProof.Rows L2 GxR
/-! ### what is drawn from: a list (true), a tuple (false) -/
def SqB (K : PySem.W.Frag) (H : Hp) (b : Bool) (a : Addr) (xs : List V) : Prop := match b with
  | true => SqL K H a xs
  | false => SqT K H a xs
def hold (b : Bool) (a : Addr) (its : Array Value) (h : Heap) : Prop := match b with
  | true => h.IsList a its
  | false => h.IsTuple a its
def stB (b : Bool) (it a : Addr) (i : Nat) (h : Heap) : Prop := match b with
  | true => h.IsListIter it a i
  | false => h.IsTupleIter it a i
def objB (b : Bool) (a : Addr) : Obj := match b with
  | true => { cls := .type "list_iterator", data := .fields #[.ref a, .int 0 0] }
  | false => { cls := .type "tuple_iterator", data := .fields #[.ref a, .int 0 0] }
section
variable {X : Cx} {pins : List (Addr × Obj)} {σ : L2.St} {H : Hp} {s : Shared} {b : Bool} {a it : Addr} {xs ys : List V} {i : Nat} {h h' : Heap} {items : Array Value}
theorem inv_sqb (I : Inv X pins σ H s) (q : SqB X.K H b a xs) : ∃ its : List Value, Vals xs its ∧ hold b a its.toArray s.heap := by
  cases b with
  | true =>
    obtain ⟨its, r, p, _⟩ := I.list q
    exact ⟨its, r, p.isList⟩
  | false =>
    obtain ⟨its, r, p, _⟩ := I.tuple q
    exact ⟨its, r, p⟩
theorem inv_injb (I : Inv X pins σ H s) (q : SqB X.K H b a xs) (q' : SqB X.K H b a ys) : xs = ys := by
  cases b with
  | true => exact I.list_inj q q'
  | false => exact I.tuple_inj q q'
theorem begins_b : Begins (.ref a) (objB b a) (hold b a items) := by
  cases b with
  | true => exact begins_list a items
  | false => exact begins_tuple a items
theorem draws_b {prog : Program} {w : World} {A : Around} (hh : A.handled = none) (hne : a ≠ it) : Draws prog w A it [it, a] items.size (fun i v => items[i]? = some v) (fun i h => stB b it a i h ∧ hold b a items h) := by
  cases b with
  | true => exact .list hh it a hne items
  | false => exact .tuple hh it a hne items
theorem stB_new (e : h.get? it = some (objB b a)) : stB b it a 0 h := by
  cases b with
  | true => exact ⟨_, e, rfl, rfl⟩
  | false => exact ⟨_, e, rfl, rfl⟩
theorem stB_at (st : stB b it a i h) (k : ∀ o, h.get? it = some o → h'.get? it = some o) : stB b it a i h' := by
  cases b with
  | true => exact Heap.IsListIter.at st k
  | false => exact Heap.IsTupleIter.at st k
theorem stB_obj (st : stB b it a i h) : ∃ o, h.get? it = some o ∧ ∀ v, o.data ≠ .cell v := by
  cases b with
  | true =>
    obtain ⟨o, e, c, d⟩ := st
    exact ⟨o, e, fun v z => by rw [d] at z; cases z⟩
  | false =>
    obtain ⟨o, e, c, d⟩ := st
    exact ⟨o, e, fun v z => by rw [d] at z; cases z⟩
theorem hold_lt (q : hold b a items h) : a < h.objs.size := by
  cases b with
  | true =>
    obtain ⟨o, e, _⟩ := q
    exact Heap.lt_size e
  | false =>
    obtain ⟨o, e, _⟩ := q
    exact Heap.lt_size e
end
/-! ### enumerate -/
def IteB (b : Bool) (K : PySem.W.Frag) (a : Addr) : It :=
  ⟨fun i H => ∃ (xs : List V) (x : V), SqB K H b a xs ∧ xs[i]? = some x, fun i H v H' => ∃ T x, v = .ref T ∧ H T = none ∧ H' = upd H T (.tup [.int (i : Nat), x]) ∧ ∀ xs, SqB K H b a xs → xs[i]? = some x, fun i H => ∃ xs : List V, SqB K H b a xs ∧ xs.length = i⟩
theorem turn_enumB {P : Program} {w : World} {K : PySem.W.Frag} {elts : List Expr} {kk : Nat} {tpos : Pos} {b : Bool} {a e it : Addr} (hie : it ≠ e) (hae : a ≠ e) (hai : a ≠ it) :
    Turn P w K (.Tuple elts kk tpos) (IteB b K a) [e, it] e (fun i h => (∃ old, IsEnum h e it ((i : Nat) : Int) old) ∧ stB b it a i h) where
  mem := by simp
  obj := fun i h st c hc => by
    obtain ⟨⟨old, he⟩, hs⟩ := st
    have e' : c = e ∨ c = it := by simpa using hc
    rcases e' with z | z
    · rw [z]; exact ⟨_, he, fun v q => nomatch q⟩
    · rw [z]; exact stB_obj hs
  keep := fun i h h' st k => let ⟨⟨old, he⟩, hi⟩ := st; ⟨⟨old, k e (by simp) _ he⟩, stB_at hi fun o q => k it (by simp) o q⟩
  item := by
    intro X hP hw hK hc i pins s σ H E I hf st hg
    subst hP hw hK
    obtain ⟨⟨old, he⟩, hit⟩ := st
    obtain ⟨xs, x, hq, hx⟩ := hg
    obtain ⟨its, rv, p⟩ := inv_sqb I hq
    obtain ⟨u, hu, ru⟩ := rv.get hx
    have hel : e < s.heap.objs.size := Heap.lt_size he
    have hil : it < s.heap.objs.size := by obtain ⟨_, q, _⟩ := stB_obj hit; exact Heap.lt_size q
    have hlt : i < its.toArray.size := by
      have := (List.getElem?_eq_some_iff.mp hu).1
      simpa using this
    have hh : X.A.in1.handled = none := I.ok.hd hc
    refine wpAny_pyNext_enum_itemC (draws_b (b := b) (items := its.toArray) hh hai) he ⟨hit, p⟩ hlt hie.symm (by simp [hie.symm, hae.symm]) fun y h' tk hy ho hst' hT hsz hk => ?_
    have ey : y = u := by
      have e1 : its[i]? = some y := by simpa using hy
      rw [hu] at e1
      exact (Option.some.inj e1).symm
    subst ey
    refine ⟨_, rfl, wpAny_letOwnedTupleGo_enum (s := { s with heap := h', toks := tk + 1 }) ho fun h'' he' sb => ?_⟩
    have hT2 : h''.get? s.heap.objs.size = some { cls := .type "tuple", data := .seq #[.int i tk, y] } := (sb.2 _ (Nat.ne_of_gt hel)).trans hT
    have new : ObjOk X.prog X.w (upd H s.heap.objs.size (.tup [.int (i : Nat), x])) h'' s.heap.objs.size (.tup [.int (i : Nat), x]) :=
      ⟨by show 2 ≤ sizeLine; decide, [.int i tk, y], .cons ⟨_, rfl⟩ (.cons ru .nil), ⟨_, hT2, rfl, _, rfl⟩⟩
    have I1 : Inv X pins σ (upd H s.heap.objs.size (.tup [.int (i : Nat), x])) { s with heap := h'', toks := tk + 1 } :=
      I.turnedNew (ch := [e, it]) (fun b ob hb q => (sb.2 b (fun z => hb (by simp [z]))).trans (hk b ob (fun z => hb (by simp [z])) (fun z => hb (by simp [z])) q)) hf (Nat.le_refl _) new
    refine ⟨.ref s.heap.objs.size, _, I1, rfl, ⟨_, x, rfl, I.hok.fresh (Nat.le_refl _), rfl, fun ys hy => by rw [inv_injb I hy hq]; exact hx⟩, ⟨⟨y, ?_⟩, stB_at hst'.1 fun o q => (sb.2 it hie).trans q⟩, fun c hcm => ?_⟩
    · have e1 : ((i + 1 : Nat) : Int) = (i : Int) + 1 := by omega
      rw [e1]; exact he'
    · have hb' : c < s.heap.objs.size := by
        have e' : c = e ∨ c = it := by simpa using hcm
        rcases e' with z | z
        · rw [z]; exact hel
        · rw [z]; exact hil
      rw [upd_ne (Nat.ne_of_lt hb')]
      exact (hf c hcm).1
  done := by
    intro X hP hw hK hc i pins s σ H E I hf st hg
    subst hP hw hK
    obtain ⟨⟨old, he⟩, hit⟩ := st
    obtain ⟨xs, hq, hx⟩ := hg
    obtain ⟨its, rv, p⟩ := inv_sqb I hq
    obtain ⟨f0, f1, f2, f3, f4, f5⟩ := hf it (by simp)
    have hl := rv.length
    have hn : its.toArray.size = i := by simp; omega
    have hh : X.A.in1.handled = none := I.ok.hd hc
    have D := draws_b (prog := X.prog) (w := X.w) (A := X.A.in1) (b := b) (items := its.toArray) hh hai
    rw [hn] at D
    exact wpAny_pyNext_enum_endD D he ⟨hit, p⟩ fun h' eb => ⟨rfl, I.turned (t' := s.toks) (fun b o hb q => eb b o hb q) f0 f1 f3 f4 f5⟩
  self := fun A i s Q E st h => let ⟨⟨_, he⟩, _⟩ := st; wpAny_pyIter_enum he h
def iEnumB (K : PySem.W.Frag) (ta : TA) : TI := fun σ H R => ta σ H fun vs H1 => ∃ b a xs, vs = [.ref a] ∧ SqB K H1 b a xs ∧ R (IteB b K a) H1
theorem pi_enumB {X : Cx} {e : Expr} {ta : TA} {p pos tpos : Pos} {elts : List Expr} {kk : Nat} (hg : Gl X "enumerate") (hm : X.mg "enumerate" = none) (ha : PA X [e] ta) (hs : starEach [e] X.env = [(false, eval e X.env)] := by rfl) :
    PI X (.Tuple elts kk tpos) (.Call (.Name "enumerate" p) [e] [] pos) (iEnumB X.K ta) := by
  refine ⟨fun pins s σ H R I h => ?_⟩
  refine Call_ (ld_blt I hg hm boot_enumerate (PyProof.Rows.callWith_type1 (thn (ha.run pos pins s σ H _ I h) fun us s1 ⟨vs, H1, I1, r1, q1⟩ => ?_) hs rfl))
  obtain ⟨b, a, xs, ex, hq, q⟩ := q1
  subst ex
  cases r1 with
  | cons r rr =>
    cases rr
    cases r
    obtain ⟨its, rv, p'⟩ := inv_sqb I1 hq
    have la := hold_lt p'
    refine enum_begins1 (begins_b (b := b) (a := a) (items := its.toArray)) p' fun h' he hit hsz hk => wpAny_pyIter_enum he ?_
    have I2 : Inv X pins σ H1 { s1 with heap := h' } := I1.kept (t' := s1.toks) hk
    refine ⟨s1.heap.objs.size + 1, [s1.heap.objs.size + 1, s1.heap.objs.size], _, _, H1, rfl, I2, turn_enumB (b := b) (a := a) (e := s1.heap.objs.size + 1) (it := s1.heap.objs.size) (Nat.ne_of_lt (Nat.lt_succ_self _)) (Nat.ne_of_lt (Nat.lt_succ_of_lt la)) (Nat.ne_of_lt la), ⟨⟨.none, he⟩, stB_new hit⟩, fun b hb => ?_, q⟩
    have e' : b = s1.heap.objs.size + 1 ∨ b = s1.heap.objs.size := by simpa using hb
    have hle : s1.heap.objs.size ≤ b := by
      rcases e' with z | z
      · rw [z]; exact Nat.le_add_right _ _
      · rw [z]; exact Nat.le_refl _
    exact I1.fpOk hle (I1.hok.fresh hle)
/-! ### zip of two -/
def ItzB (b1 b2 : Bool) (K : PySem.W.Frag) (a c : Addr) : It :=
  ⟨fun i H => ∃ (xs ys : List V) (x y : V), SqB K H b1 a xs ∧ SqB K H b2 c ys ∧ xs[i]? = some x ∧ ys[i]? = some y,
    fun i H v H' => ∃ T x y, v = .ref T ∧ H T = none ∧ H' = upd H T (.tup [x, y]) ∧ (∀ xs, SqB K H b1 a xs → xs[i]? = some x) ∧ ∀ ys, SqB K H b2 c ys → ys[i]? = some y,
    fun i H => ∃ xs ys : List V, SqB K H b1 a xs ∧ SqB K H b2 c ys ∧ i = min xs.length ys.length⟩
theorem turn_zipB {P : Program} {w : World} {K : PySem.W.Frag} {elts : List Expr} {kk : Nat} {tpos : Pos} {b1 b2 : Bool} {a c z TI TO i1 i2 : Addr} (D : ZipSep2 z TI TO i1 i2 [i1, a] [i2, c]) (n1 : a ≠ i1) (n2 : c ≠ i2) :
    Turn P w K (.Tuple elts kk tpos) (ItzB b1 b2 K a c) [z, TI, TO, i1, i2] z (fun i h => IsZip h z TI TO .none ∧ IsTupOf2 h TI (.ref i1) (.ref i2) ∧ (∃ x y, IsTupOf2 h TO x y) ∧ stB b1 i1 a i h ∧ stB b2 i2 c i h) where
  mem := by simp
  obj := fun i h st c hc => by
    obtain ⟨hz, hTI, ⟨x, y, hTO⟩, h1, h2⟩ := st
    have e' : c = z ∨ c = TI ∨ c = TO ∨ c = i1 ∨ c = i2 := by simpa using hc
    rcases e' with q | q | q | q | q
    · rw [q]; exact ⟨_, hz, fun v q => nomatch q⟩
    · rw [q]; exact ⟨_, hTI, fun v q => nomatch q⟩
    · rw [q]; exact ⟨_, hTO, fun v q => nomatch q⟩
    · rw [q]; exact stB_obj h1
    · rw [q]; exact stB_obj h2
  keep := fun i h h' st k => by
    obtain ⟨hz, hTI, ⟨x, y, hTO⟩, h1, h2⟩ := st
    exact ⟨k z (by simp) _ hz, k TI (by simp) _ hTI, ⟨x, y, k TO (by simp) _ hTO⟩, stB_at h1 fun o q => k i1 (by simp) o q, stB_at h2 fun o q => k i2 (by simp) o q⟩
  item := by
    intro X hP hw hK hc i pins s σ H E I hf st hg
    subst hP hw hK
    obtain ⟨hz, hTI, ⟨x0, y0, hTO⟩, h1, h2⟩ := st
    obtain ⟨xs, ys, x, y, hqx, hqy, hx, hy⟩ := hg
    obtain ⟨its, rv, p⟩ := inv_sqb I hqx
    obtain ⟨its2, rv2, p2⟩ := inv_sqb I hqy
    obtain ⟨u, hu, ru⟩ := rv.get hx
    obtain ⟨u2, hu2, ru2⟩ := rv2.get hy
    have hzl : z < s.heap.objs.size := Heap.lt_size hz
    have hh : X.A.in1.handled = none := I.ok.hd hc
    have l1 : i < its.toArray.size := by
      have := (List.getElem?_eq_some_iff.mp hu).1
      simpa using this
    have l2 : i < its2.toArray.size := by
      have := (List.getElem?_eq_some_iff.mp hu2).1
      simpa using this
    refine wpAny_pyNext_zipD2_item D (draws_b (b := b1) (items := its.toArray) hh n1) (draws_b (b := b2) (items := its2.toArray) hh n2) hz hTI hTO ⟨h1, p⟩ ⟨h2, p2⟩ l1 l2 fun x1 x2 h' tk hx1 hx2 z' TO' h1' h2' hT hsz hk => ?_
    have e1 : x1 = u := by
      have e1 : its[i]? = some x1 := by simpa using hx1
      rw [hu] at e1
      exact (Option.some.inj e1).symm
    have e2 : x2 = u2 := by
      have e1 : its2[i]? = some x2 := by simpa using hx2
      rw [hu2] at e1
      exact (Option.some.inj e1).symm
    subst e1 e2
    refine ⟨_, rfl, wpAny_letOwnedTupleGo_zip (s := { s with heap := h', toks := tk }) z' fun h'' z'' sb => ?_⟩
    have hT2 : h''.get? s.heap.objs.size = some { cls := .type "tuple", data := .seq #[x1, x2] } := (sb.2 _ (Nat.ne_of_gt hzl)).trans hT
    have new : ObjOk X.prog X.w (upd H s.heap.objs.size (.tup [x, y])) h'' s.heap.objs.size (.tup [x, y]) :=
      ⟨by show 2 ≤ sizeLine; decide, [x1, x2], .cons ru (.cons ru2 .nil), ⟨_, hT2, rfl, _, rfl⟩⟩
    have I1 : Inv X pins σ (upd H s.heap.objs.size (.tup [x, y])) { s with heap := h'', toks := tk } :=
      I.turnedNew (ch := [z, TI, TO, i1, i2]) (fun c o hb q => (sb.2 c (fun q' => hb (by simp [q']))).trans (hk c o (fun q' => hb (by simp [q'])) (fun q' => hb (by simp [q'])) (fun q' => hb (by simp [q'])) (fun q' => hb (by simp [q'])) q)) hf (Nat.le_refl _) new
    have z1 : i1 ≠ z := fun e => D.zf1 (by simp [e])
    have z2 : i2 ≠ z := fun e => D.zf2 (by simp [e])
    refine ⟨.ref s.heap.objs.size, _, I1, rfl, ⟨_, x, y, rfl, I.hok.fresh (Nat.le_refl _), rfl, fun l hl => by rw [inv_injb I hl hqx]; exact hx, fun l hl => by rw [inv_injb I hl hqy]; exact hy⟩, ⟨z'', ?_, ⟨x1, x2, ?_⟩, ?_, ?_⟩, fun c hcm => ?_⟩
    · exact (sb.2 _ D.TIz).trans (hk _ _ D.TIz D.TITO D.TIi1 D.TIi2 hTI)
    · exact (sb.2 _ D.TOz).trans TO'
    · exact stB_at h1'.1 fun o q => (sb.2 _ z1).trans q
    · exact stB_at h2'.1 fun o q => (sb.2 _ z2).trans q
    · have hlt : c < s.heap.objs.size := by
        have e' : c = z ∨ c = TI ∨ c = TO ∨ c = i1 ∨ c = i2 := by simpa using hcm
        rcases e' with q | q | q | q | q
        · rw [q]; exact hzl
        · rw [q]; exact Heap.lt_size hTI
        · rw [q]; exact Heap.lt_size hTO
        · rw [q]; obtain ⟨_, e1, _⟩ := stB_obj h1; exact Heap.lt_size e1
        · rw [q]; obtain ⟨_, e2, _⟩ := stB_obj h2; exact Heap.lt_size e2
      rw [upd_ne (Nat.ne_of_lt hlt)]
      exact (hf c hcm).1
  done := by
    intro X hP hw hK hc i pins s σ H E I hf st hg
    subst hP hw hK
    obtain ⟨hz, hTI, ⟨x0, y0, hTO⟩, h1, h2⟩ := st
    obtain ⟨xs, ys, hqx, hqy, hend⟩ := hg
    obtain ⟨its, rv, p⟩ := inv_sqb I hqx
    obtain ⟨its2, rv2, p2⟩ := inv_sqb I hqy
    have l1 := rv.length
    have l2 := rv2.length
    have hh : X.A.in1.handled = none := I.ok.hd hc
    have e1 : its.toArray.size = its.length := by simp
    have e2 : its2.toArray.size = its2.length := by simp
    exact wpAny_pyNext_zipD2_end D (draws_b (b := b1) (items := its.toArray) hh n1) (draws_b (b := b2) (items := its2.toArray) hh n2) hz hTI hTO ⟨h1, p⟩ ⟨h2, p2⟩ (by omega) (by omega) (by omega) fun h' tk hk => ⟨rfl, I.turnedL (t' := tk) (ch := [z, TI, TO, i1, i2]) (fun c o hb q =>
      hk c o (fun q' => hb (by simp [q'])) (fun q' => hb (by simp [q'])) (fun q' => hb (by simp [q'])) (fun q' => hb (by simp [q'])) q) hf⟩
  self := fun A i s Q E st h => wpAny_pyIter_zip st.1 h
def iZipB (K : PySem.W.Frag) (ta : TA) : TI := fun σ H R => ta σ H fun vs H1 => ∃ b1 b2 a c xs ys, vs = [.ref a, .ref c] ∧ SqB K H1 b1 a xs ∧ SqB K H1 b2 c ys ∧ R (ItzB b1 b2 K a c) H1
theorem pi_zipB {X : Cx} {e e2 : Expr} {ta : TA} {p pos tpos : Pos} {elts : List Expr} {kk : Nat} (hg : Gl X "zip") (hm : X.mg "zip" = none) (ha : PA X [e, e2] ta)
    (hs : starEach [e, e2] X.env = (false, eval e X.env) :: starEach [e2] X.env := by rfl) (hpl : (backTo pos (starEach [e2] X.env)).any (·.1) = false := by rfl) :
    PI X (.Tuple elts kk tpos) (.Call (.Name "zip" p) [e, e2] [] pos) (iZipB X.K ta) := by
  refine ⟨fun pins s σ H R I h => ?_⟩
  refine Call_ (ld_blt I hg hm PyProof.Rows.boot_zip (PyProof.Rows.callWith_type1 (thn (ha.run pos pins s σ H _ I h) fun us s1 ⟨vs, H1, I1, r1, q1⟩ => ?_) hs hpl))
  obtain ⟨b1, b2, a, b, xs, ys, ex, hqx, hqy, q⟩ := q1
  subst ex
  cases r1 with
  | cons r rr =>
    cases rr with
    | cons r' rr =>
      cases rr
      cases r
      cases r'
      obtain ⟨its, rv, p1⟩ := inv_sqb I1 hqx
      obtain ⟨its2, rv2, p2⟩ := inv_sqb I1 hqy
      have la := hold_lt p1
      have lb := hold_lt p2
      refine zip_begins2 (begins_b (b := b1) (a := a) (items := its.toArray)) (begins_b (b := b2) (a := b) (items := its2.toArray)) p1 p2 fun h' hz hTI hTO h1 h2 hsz hk => wpAny_pyIter_zip hz ?_
      have I2 : Inv X pins σ H1 { s1 with heap := h' } := I1.kept (t' := s1.toks) hk
      refine ⟨s1.heap.objs.size + 4, [s1.heap.objs.size + 4, s1.heap.objs.size + 2, s1.heap.objs.size + 3, s1.heap.objs.size, s1.heap.objs.size + 1], _, _, H1, rfl, I2,
        turn_zipB (zip_sep2 (N := s1.heap.objs.size) (fp1 := [a]) (fp2 := [b]) (by simpa using la) (by simpa using lb)) (Nat.ne_of_lt la) (Nat.ne_of_lt (Nat.lt_succ_of_lt lb)), ⟨hz, hTI, ⟨_, _, hTO⟩, stB_new h1, stB_new h2⟩, fun c hcm => ?_, q⟩
      have e' : c = s1.heap.objs.size + 4 ∨ c = s1.heap.objs.size + 2 ∨ c = s1.heap.objs.size + 3 ∨ c = s1.heap.objs.size ∨ c = s1.heap.objs.size + 1 := by simpa using hcm
      have hle : s1.heap.objs.size ≤ c := by
        rcases e' with z | z | z | z | z
        · rw [z]; exact Nat.le_add_right _ _
        · rw [z]; exact Nat.le_add_right _ _
        · rw [z]; exact Nat.le_add_right _ _
        · rw [z]; exact Nat.le_refl _
        · rw [z]; exact Nat.le_add_right _ _
      exact I1.fpOk hle (I1.hok.fresh hle)
end Z
/-! # what is walked: enumerate, zip, ranges with a step, reversed ranges -/
namespace Z
open PySem PySem.Spec PyProof.Rows L2 GxR
def enumF : Nat → List PyData → List PyData
  | _, [] => []
  | k, d :: ds => .tuple [.int (k : Nat), d] :: enumF (k + 1) ds
theorem enumF_len : ∀ {k : Nat} {ds : List PyData}, (enumF k ds).length = ds.length
  | _, [] => rfl
  | _, _ :: _ => congrArg (· + 1) enumF_len
theorem enumF_at : ∀ {k : Nat} {ds : List PyData} {i : Nat} {d : PyData}, (enumF k ds)[i]? = some d → ∃ x, ds[i]? = some x ∧ d = .tuple [.int ((k + i : Nat) : Int), x]
  | _, [], i, d, h => by simp [enumF] at h
  | k, x :: ds, 0, d, h => ⟨x, rfl, by simpa [enumF] using h.symm⟩
  | k, x :: ds, i + 1, d, h => by
    obtain ⟨y, h1, h2⟩ := enumF_at (k := k + 1) (ds := ds) (i := i) (by simpa [enumF] using h)
    refine ⟨y, by simpa using h1, ?_⟩
    rw [h2, show k + 1 + i = k + (i + 1) by omega]
def zipD : List PyData → List PyData → List PyData
  | a :: as, b :: bs => .tuple [a, b] :: zipD as bs
  | _, _ => []
theorem zipD_len : ∀ {as bs : List PyData}, (zipD as bs).length = min as.length bs.length
  | [], bs => by simp [zipD]
  | _ :: _, [] => by simp [zipD]
  | _ :: as, _ :: bs => by
    show (zipD as bs).length + 1 = _
    rw [zipD_len]
    simp
theorem zipD_at : ∀ {as bs : List PyData} {i : Nat} {d : PyData}, (zipD as bs)[i]? = some d → ∃ x y, as[i]? = some x ∧ bs[i]? = some y ∧ d = .tuple [x, y]
  | [], bs, i, d, h => by simp [zipD] at h
  | _ :: _, [], i, d, h => by simp [zipD] at h
  | a :: as, b :: bs, 0, d, h => ⟨a, b, rfl, rfl, by simpa [zipD] using h.symm⟩
  | a :: as, b :: bs, i + 1, d, h => by
    obtain ⟨x, y, h1, h2, h3⟩ := zipD_at (as := as) (bs := bs) (i := i) (by simpa [zipD] using h)
    exact ⟨x, y, by simpa using h1, by simpa using h2, h3⟩
/-- the items of a list, a tuple -/
def itemsD : PyData → Option (List PyData)
  | .list ds => some ds
  | .tuple ds => some ds
  | _ => none
section
variable {G : Fr} {W : WX} {p q : Pd} {s s' : Sta} {σ σ' : L2.St} {H H' : Hp} {F : Ix → List Addr} {v x y : V} {w : Vl} {d : PyData} {ds es : List PyData} {h : Hd} {vs : List V} {T : Addr} {tr : TA} {fr : FA}
/-- a new tuple of values for good -/
theorem RLw.newT (r : RLw G p s σ H F) (ra : RpAll G.K (CF G F) H vs ds) (hT : H T = none) : RL G (p ++ [(.ref T, vf (.tuple ds))]) s σ (upd H T (.tup vs)) := by
  have r' : RLw G (p ++ []) s σ H F := by
    rw [List.append_nil]
    exact r
  exact Made.tup (Q := fun v H' => RL G (p ++ [(v, vf (.tuple ds))]) s σ H') r.cok (fun v H' f a b c d o => r'.res a b c d o) ra hT
theorem rp_sqb {K : PySem.W.Frag} {C : Addr → Prop} (r : Rp K C H v d) (e : itemsD d = some ds) : ∃ b a vs, v = .ref a ∧ SqB K H b a vs ∧ RpAll K C H vs ds := by
  cases r with
  | lst st ra =>
    cases e
    exact ⟨true, _, _, rfl, st.sq, ra⟩
  | tup st ra =>
    cases e
    exact ⟨false, _, _, rfl, st.sq, ra⟩
  | _ => cases e
def kB (d : PyData) : Bool := match d with
  | .list _ => true
  | _ => false
/-- the same place, the same kind -/
theorem rp_sqb' {K : PySem.W.Frag} {C : Addr → Prop} {a : Addr} (r : Rp K C H (.ref a) d) (e : itemsD d = some ds) : ∃ vs, SqB K H (kB d) a vs ∧ RpAll K C H vs ds := by
  cases r with
  | lst st ra =>
    cases e
    exact ⟨_, st.sq, ra⟩
  | tup st ra =>
    cases e
    exact ⟨_, st.sq, ra⟩
theorem walks_enumB {a : Addr} (hv : v = .ref a) (e : itemsD d = some ds) : Walks G p [(v, vf d)] (IteB (kB d) G.K a) (enumF 0 ds) where
  ns := NoS.one
  stop := fun z i H s σ r l => by
    obtain ⟨F, r, rp⟩ := r.own2
    subst hv
    obtain ⟨vs, sq, ra⟩ := rp_sqb' rp e
    rw [enumF_len] at l
    exact ⟨vs, sq, by rw [ra.len]; exact l.symm⟩
  go := fun z i H s σ r l => by
    obtain ⟨F, r, rp⟩ := r.own2
    subst hv
    obtain ⟨vs, sq, ra⟩ := rp_sqb' rp e
    rw [enumF_len] at l
    exact ⟨vs, vs[i]'(by rw [ra.len]; exact l), sq, List.getElem?_eq_getElem _⟩
  yld := fun z i H s σ d x H' r e2 y => by
    obtain ⟨F, r, rp⟩ := r.own2
    subst hv
    obtain ⟨vs, sq, ra⟩ := rp_sqb' rp e
    obtain ⟨T, x', rfl, hT, rfl, hx⟩ := y
    obtain ⟨d', h1, rfl⟩ := enumF_at e2
    obtain ⟨v', g1, g2⟩ := ra.get h1
    rw [hx _ sq] at g1
    cases g1
    rw [Nat.zero_add]
    exact r.newT (.cons (.int _) (.cons g2 .nil)) hT
theorem NoS.two {x y : V} {d e : PyData} : NoS [(x, vf d), (y, vf e)] := fun j v i z => by
  match j with
  | 0 => simp at z
  | 1 => simp at z
  | j + 2 => simp at z
theorem RL.own3 {x y : V} {d e : PyData} {z : Pd} (r : RL G (p ++ [(x, vf d), (y, vf e)] ++ z) s σ H) : ∃ F, RLw G (p ++ [(x, vf d), (y, vf e)] ++ z) s σ H F ∧ Rp G.K (CF G F) H x d ∧ Rp G.K (CF G F) H y e := by
  obtain ⟨F, r⟩ := r
  have a1 : (p ++ [(x, vf d), (y, vf e)] ++ z)[p.length]? = some (x, vf d) := by
    rw [List.append_assoc, List.getElem?_append_right (Nat.le_refl _), Nat.sub_self]
    rfl
  have a2 : (p ++ [(x, vf d), (y, vf e)] ++ z)[p.length + 1]? = some (y, vf e) := by
    rw [List.append_assoc, List.getElem?_append_right (Nat.le_add_right _ _), Nat.add_sub_cancel_left]
    rfl
  exact ⟨F, r, (r.own (.pd p.length) x (.f d) a1).2, (r.own (.pd (p.length + 1)) y (.f e) a2).2⟩
theorem walks_zipB {a c : Addr} {d e : PyData} (hv : x = .ref a) (hw : y = .ref c) (e1 : itemsD d = some ds) (e2 : itemsD e = some es) : Walks G p [(x, vf d), (y, vf e)] (ItzB (kB d) (kB e) G.K a c) (zipD ds es) where
  ns := NoS.two
  stop := fun z i H s σ r l => by
    obtain ⟨F, r, rp, rq⟩ := r.own3
    subst hv hw
    obtain ⟨vs, sq, ra⟩ := rp_sqb' rp e1
    obtain ⟨ws, sq2, rb⟩ := rp_sqb' rq e2
    rw [zipD_len] at l
    exact ⟨vs, ws, sq, sq2, by rw [ra.len, rb.len]; exact l⟩
  go := fun z i H s σ r l => by
    obtain ⟨F, r, rp, rq⟩ := r.own3
    subst hv hw
    obtain ⟨vs, sq, ra⟩ := rp_sqb' rp e1
    obtain ⟨ws, sq2, rb⟩ := rp_sqb' rq e2
    rw [zipD_len] at l
    exact ⟨vs, ws, vs[i]'(by rw [ra.len]; omega), ws[i]'(by rw [rb.len]; omega), sq, sq2, List.getElem?_eq_getElem _, List.getElem?_eq_getElem _⟩
  yld := fun z i H s σ d' x' H' r e3 y' => by
    obtain ⟨F, r, rp, rq⟩ := r.own3
    subst hv hw
    obtain ⟨vs, sq, ra⟩ := rp_sqb' rp e1
    obtain ⟨ws, sq2, rb⟩ := rp_sqb' rq e2
    obtain ⟨T, x1, x2, rfl, hT, rfl, hx1, hx2⟩ := y'
    obtain ⟨d1, d2, h1, h2, rfl⟩ := zipD_at e3
    obtain ⟨v1, g1, g2⟩ := ra.get h1
    obtain ⟨v2, g3, g4⟩ := rb.get h2
    rw [hx1 _ sq] at g1
    rw [hx2 _ sq2] at g3
    cases g1
    cases g3
    exact r.newT (.cons g2 (.cons g4 .nil)) hT
/-- enumerate(e) -/
def fEnum (fr : FA) : Sta → Rs (List PyData) := fun s => (fr s).bind fun hs s1 => match takeAll s1 hs with
  | some ([d], s2) => (match itemsD d with
    | some ds => .ok (enumF 0 ds) s2
    | none => .no)
  | _ => .no
theorem sem_enumB (ha : SemA G W tr fr) : SemI G W (iEnumB G.K tr) (fEnum fr) := semi_of fun p s σ H R r0 post => by
  refine ha.bind (P := PoI G p σ W R) (fun z => z) r0 post (fun _ _ z => z) fun hs s1 vs H1 post l r1 => ?_
  split at post
  · rename_i d s2 t
    split at post
    · rename_i ds ed
      obtain ⟨F, r1⟩ := r1
      obtain ⟨F2, r2, l2⟩ := r1.takeAll l t
      have rps := RLw.rps r2 l2
      match vs, rps with
      | _, .cons rp .nil =>
        obtain ⟨b, a, xs, rfl, sq, ra⟩ := rp_sqb rp ed
        obtain ⟨xs', sq', _⟩ := rp_sqb' rp ed
        exact ⟨kB d, a, xs', rfl, sq', post _ _ H1 r2.rl (walks_enumB rfl ed)⟩
    · exact post.elim
  · exact post.elim
/-- zip(e, f) -/
def fZip (fr : FA) : Sta → Rs (List PyData) := fun s => (fr s).bind fun hs s1 => match takeAll s1 hs with
  | some ([d, e], s2) => (match itemsD d, itemsD e with
    | some ds, some es => .ok (zipD ds es) s2
    | _, _ => .no)
  | _ => .no
theorem sem_zipB (ha : SemA G W tr fr) : SemI G W (iZipB G.K tr) (fZip fr) := semi_of fun p s σ H R r0 post => by
  refine ha.bind (P := PoI G p σ W R) (fun z => z) r0 post (fun _ _ z => z) fun hs s1 vs H1 post l r1 => ?_
  split at post
  · rename_i d e s2 t
    split at post
    · rename_i ds es ed ee
      obtain ⟨F, r1⟩ := r1
      obtain ⟨F2, r2, l2⟩ := r1.takeAll l t
      have rps := RLw.rps r2 l2
      match vs, rps with
      | _, .cons rp (.cons rq .nil) =>
        obtain ⟨_, a, xs, rfl, _, _⟩ := rp_sqb rp ed
        obtain ⟨_, c, ys, rfl, _, _⟩ := rp_sqb rq ee
        obtain ⟨xs', sq', _⟩ := rp_sqb' rp ed
        obtain ⟨ys', sq2', _⟩ := rp_sqb' rq ee
        exact ⟨kB d, kB e, a, c, xs', ys', rfl, sq', sq2', post _ _ H1 r2.rl (walks_zipB rfl rfl ed ee)⟩
    · exact post.elim
  · exact post.elim
/-! ### range(a, b, -1), reversed(range(..)) -/
def downR (hi : Int) (n : Nat) : List PyData := (List.range n).map fun (i : Nat) => PyData.int (hi - (i : Int))
theorem downR_len {hi : Int} {n : Nat} : (downR hi n).length = n := by simp [downR]
theorem downR_at {hi : Int} {n i : Nat} {d : PyData} (h : (downR hi n)[i]? = some d) : d = .int (hi - (i : Int)) := by
  unfold downR at h
  rw [List.getElem?_map] at h
  cases e : (List.range n)[i]? with
  | none =>
    rw [e] at h
    cases h
  | some k =>
    rw [e] at h
    have := (List.getElem?_eq_some_iff.mp e).2
    rw [List.getElem_range] at this
    rw [← this] at h
    exact (Option.some.inj h).symm
theorem walks_down {hi : Int} {n : Nat} : Walks G p [] (Itc hi (-1) n) (downR hi n) where
  ns := fun j v i z => by simp at z
  stop := fun _ i H s σ r l => by
    rw [downR_len] at l
    exact Nat.le_of_eq l.symm
  go := fun _ i H s σ r l => by
    rw [downR_len] at l
    exact l
  yld := fun _ i H s σ d x H' r e y => by
    obtain ⟨rfl, rfl⟩ := y
    rw [downR_at e, show hi + (i : Int) * (-1) = hi - (i : Int) by omega]
    exact r.pushF fun _ => .int _
def fRng3 (fr : FA) : Sta → Rs (List PyData) := fun s => (fr s).bind fun hs s1 => match argsOf s1 hs with
  | some [⟨.int i, _, _⟩, ⟨.int j, _, _⟩, ⟨.int k, _, _⟩] => if okRg i = true ∧ okRg j = true ∧ k = -1 then .ok (downR i (i - j).toNat) s1 else .no
  | _ => .no
theorem opd3 {C : Addr → Prop} {w1 w2 w3 : Vl} (o : OpdL G C H vs [w1, w2, w3]) : ∃ v1 v2 v3, vs = [v1, v2, v3] ∧ Opd G C H v1 w1 ∧ Opd G C H v2 w2 ∧ Opd G C H v3 w3 := by
  cases o with
  | cons a b =>
    obtain ⟨v2, v3, rfl, b2, b3⟩ := opd2 b
    exact ⟨_, _, _, rfl, a, b2, b3⟩
theorem sem_rng3 (ha : SemA G W tr fr) : SemI G W (iRng3 tr) (fRng3 fr) := semi_of fun p s σ H R r0 post => by
  refine ha.bind (P := PoI G p σ W R) (fun z => z) r0 post (fun _ _ z => z) fun hs s1 vs H1 post l r1 => ?_
  split at post
  · rename_i i si li j sj lj k sk lk e
    split at post
    · rename_i hb
      obtain ⟨F, r1⟩ := r1
      obtain ⟨v1, v2, v3, rfl, o1, o2, o3⟩ := opd3 (r1.opds l e)
      rw [o1.flat rfl rfl, o2.flat rfl rfl, o3.flat rfl rfl]
      have h1 := okRg_ok hb.1
      have h2 := okRg_ok hb.2.1
      obtain ⟨_, _, rfl⟩ := hb
      refine ⟨i, j, -1, (i - j).toNat, rfl, RgC.neg h1.1 h1.2 h2.1 h2.2, post [] _ H1 ?_ walks_down⟩
      rw [List.append_nil]
      exact r1.rl.popN
    · exact post.elim
  · exact post.elim
def fRev1 (fe : FE) : Sta → Rs (List PyData) := fun s => (fe s).bind fun h s1 => match lookH s1 h with
  | some ⟨.int j, _, _⟩ => if okRg j = true then .ok (downR ((j.toNat : Nat) - 1) j.toNat) s1 else .no
  | _ => .no
theorem sem_rev1 {te : TE} {fe : FE} (he : SemE G W te fe) : SemI G W (iRevR (tRg1 te)) (fRev1 fe) := semi_of fun p s σ H R r0 post => by
  refine he.bind (P := PoI G p σ W R) (fun z => z) r0 post (fun _ _ z => z) fun h s1 v H1 post r1 => ?_
  split at post
  · rename_i j sj lj e
    split at post
    · rename_i hb
      obtain ⟨F, r1⟩ := r1
      have o := r1.opd getp_new e
      have h1 := okRg_ok hb
      refine ⟨j, o.flat rfl rfl, by decide, by decide, h1.1, h1.2, ?_⟩
      have q := post [] (Itc (((j.toNat : Nat) : Int) - 1) (-1) j.toNat) H1 (by
        rw [List.append_nil]
        exact r1.rl.popN) walks_down
      rw [Int.sub_zero, Int.zero_add]
      exact q
    · exact post.elim
  · exact post.elim
end
end Z
/-! # errors: raised, caught, asked, read -/
namespace Z
open PySem PySem.Spec PyProof.Rows L2 GxR
section
variable {G : Fr} {W : WX} {p p' : Pd} {s s' : Sta} {σ σ' : L2.St} {H H' : Hp} {F : Ix → List Addr} {v : V} {w : Vl} {d : PyData} {ds : List PyData} {i : Nat} {x C : Str} {fs : List Str} {tr : TA} {fr : FA}
/-! ### raised -/
def fRz (x : Str) (fs : List Str) (fr : FA) : FS := fun s => (fr s).bind fun hs s1 => match takeAll s1 hs with
  | some (ds, s2) => if ds.length = fs.length ∧ ds.length ≤ 1000 ∧ ds.all flatD = true then .ex ⟨x, some (fs.zip ds)⟩ s2 else .no
  | none => .no
def fRz0 (x : Str) : FS := fun s => .ex ⟨x, none⟩ s
theorem fld_zip : ∀ {fs : List Str} {ds : List PyData}, (fs.zip ds).map (fun p => (p.1, valD p.2)) = fs.zip (ds.map valD)
  | [], _ => rfl
  | _ :: _, [] => rfl
  | f :: fs, d :: ds => by
    show (f, valD d) :: (fs.zip ds).map (fun p => (p.1, valD p.2)) = (f, valD d) :: fs.zip (ds.map valD)
    rw [fld_zip]
theorem sem_rz (ha : SemA G W tr fr) : SemS G W (tRz G.K x fs W tr) (fRz x fs fr) := fun p s σ H D ns r0 post => by
  refine ha.bind (P := PoS G p D W) (fun z => z) r0 post (fun _ _ z d H' r' => z d σ H' r') fun hs s1 vs H1 post l r1 => ?_
  split at post
  · rename_i ds s2 t
    split at post
    · rename_i hz
      obtain ⟨F, r1⟩ := r1
      obtain ⟨F2, r2, l2⟩ := r1.takeAll l t
      have ev := (RLw.rps r2 l2).vals hz.2.2
      refine ⟨l2.trans hz.1, by rw [l2]; exact hz.2.1, fun d H' hd same at_d => post (some d) σ H' ?_⟩
      have g := r2.grow (H' := H') (fun a o e _ => by rw [same a (by rw [e]; simp)]; exact e) (fun P hP => by
        obtain ⟨ps, e, t⟩ := (r2.tab P hP).2
        exact ⟨ps, by rw [same P (by rw [e]; simp)]; exact e, t⟩)
      obtain ⟨F3, r3, le⟩ := g.popN
      refine ⟨F3, r3, d, rfl, ?_, fun c => ?_⟩
      · rw [at_d, ev]
        show some (HO.xd (fs.zip (ds.map valD)).reverse) = some (HO.xd (fldV (fs.zip ds)))
        unfold fldV
        rw [fld_zip]
      · obtain ⟨o, e⟩ := r2.cthere (le d c)
        rw [hd] at e
        cases e
    · exact post.elim
  · exact post.elim
theorem sem_rz0 : SemS G W (fun _ σ H => W (.ref (He.ga G.K x)) none σ H) (fRz0 x) := fun p s σ H D ns r0 post => by
  obtain ⟨F, r⟩ := r0
  exact post none σ H ⟨F, r, rfl⟩
/-! ### caught -/
/-! within an except suite -/
def xcOf (e : Xn) (d : Option Addr) : Option (Addr × List (Str × PyData)) := match e.fs, d with
  | some fs, some dd => some (dd, fs)
  | _, _ => none
def okD (e : Xn) (d : Option Addr) : Prop := match e.fs with
  | none => d = none
  | some _ => ∃ dd, d = some dd
def xpOf (G : Fr) (i : Nat) (a : Addr) : L2.St → Prop := fun σ => G.xp σ ∧ σ[i]? = some (some (.ref a))
theorem RLw.sx (r : RLw G p s σ H F) {xc : Option (Addr × List (Str × PyData))} {xp : L2.St → Prop} (h1 : ∀ dd fs, xc = some (dd, fs) → H dd = some (.xd (fldV fs)) ∧ ¬ CF G F dd) (h2 : xp σ) : RLw (G.sx xc xp) p s σ H F :=
  ⟨r.own, r.emp, r.dis, r.nod, r.nb, r.kp, r.tab, r.bd, r.fd, h1, ⟨r.wf.hd, r.wf.len, r.wf.slv, r.wf.lent, h2⟩⟩
theorem RLw.unsx {xc : Option (Addr × List (Str × PyData))} {xp : L2.St → Prop} (r : RLw (G.sx xc xp) p s σ H F) (hx : G.xp σ) (hc : G.xc = none) : RLw G p s σ H F :=
  ⟨r.own, r.emp, r.dis, r.nod, r.nb, r.kp, r.tab, r.bd, r.fd, fun dd fs e => (by rw [hc] at e; cases e), ⟨r.wf.hd, r.wf.len, r.wf.slv, r.wf.lent, hx⟩⟩
theorem RLw.slotsW (hx : G.xp σ → G.xp σ') (r : RLw G p s σ H F) (hl : σ'.length = s'.sl.length) (keep : ∀ (i : Nat) w, s'.sl[i]? = some (some w) → s.sl[i]? = some (some w) ∧ σ'[i]? = σ[i]?) (hh : ∀ (j : Nat) v i, p[j]? = some (v, .slot i) → σ'[i]? = σ[i]?) :
    ∃ F', RLw G p s' σ' H F' ∧ ∀ a, CF G F' a → CF G F a := by
  refine ⟨_, r.reix (p' := p) (s' := s') (σ' := σ') id (fun x v w z => ?_) (fun x y _ _ _ _ _ _ _ e => e) ⟨fun j v i z => ?_, hl, fun i w z => ?_, fun i w z l => ?_, hx r.wf.xs⟩, fun a c => ?_⟩
  · cases x with
    | pd j => exact ⟨w, z, rfl, rfl⟩
    | sl i =>
      obtain ⟨z1, z2⟩ := z
      obtain ⟨k1, k2⟩ := keep i w z2
      exact ⟨w, ⟨by rw [← k2]; exact z1, k1⟩, rfl, rfl⟩
  · rw [hh j v i z]
    exact r.wf.hd j v i z
  · obtain ⟨k1, k2⟩ := keep i w z
    rw [k2]
    exact r.wf.slv i w k1
  · obtain ⟨k1, k2⟩ := keep i w z
    rw [k2]
    exact r.wf.lent i w k1 l
  · rcases c with c | ⟨y, c⟩
    · exact Or.inl c
    · exact Or.inr ⟨_, (Fr'_mem c).2⟩
/-- slot i may hold anything -/
theorem RLw.wipe1 (hx : XD G [i]) (ns : NoS p) (r : RLw G p s σ H F) (o : Option V) : ∃ F', RLw G p (wipeS s [i]) (σ.set i o) H F' ∧ ∀ a, CF G F' a → CF G F a :=
  r.slotsW (fun q => hx.set q) (by rw [List.length_set, r.wf.len]; exact (wipeL_len).symm) (fun k w z => by
    obtain ⟨n, e⟩ := wipeL_at z
    exact ⟨e, List.getElem?_set_ne fun q => n (by rw [q]; exact List.mem_singleton.mpr rfl)⟩) fun j v k z => (ns j v k z).elim
def fTryAs (i : Nat) (tk : Str → Option Bool) (fb : FS) (fx : Xn → FS) : FS := fun s => match fb s with
  | .ex e s1 => (match tk e.cls with
    | some true => if i < s1.sl.length then (match fx e (wipeS s1 [i]) with
      | .ok (.rt h) s2 => .ok (.rt h) s2
      | .ok fl s2 => .ok fl (wipeS s2 [i])
      | _ => .no) else .no
    | some false => .ex e s1
    | none => .no)
  | r => r
theorem sem_tryAs {tb : WX → TS} {ts : Addr → Value → Option Addr → TS} {tk : Str → Option Bool} {fb : FS} {fx : Xn → FS} (hx : XD G [i]) (hc : G.xc = none) (hk : ∀ x b, tk x = some b → PySem.W.exmOne G.K (.ref (He.ga G.K x)) (.ref (He.ga G.K C)) = some b)
    (hb : ∀ W', SemS G W' (tb W') fb) (hs : ∀ a e d, okD e d → SemS (G.sx (xcOf e d) (xpOf G i a)) W0 (ts a (.ref (He.ga G.K e.cls)) d) (fx e)) :
    SemS G W (fun D σ H => tb (wAs G.K (.ref (He.ga G.K C)) i ts W D) D σ H) (fTryAs i tk fb fx) := fun p s σ H D ns r0 post => by
  refine hb _ p s σ H D ns r0 ?_
  unfold fTryAs at post
  cases e : fb s with
  | no =>
    rw [e] at post
    exact post
  | ok fl s1 =>
    rw [e] at post
    cases fl <;> exact post
  | ex x s1 =>
    rw [e] at post
    intro d σ1 H1 r1
    obtain ⟨F1, r1, at_d⟩ := r1
    replace post : PoS G p D W (match tk x.cls with
      | some true => if i < s1.sl.length then (match fx x (wipeS s1 [i]) with
        | .ok (.rt h) s2 => .ok (.rt h) s2
        | .ok fl s2 => .ok fl (wipeS s2 [i])
        | _ => .no) else .no
      | some false => .ex x s1
      | none => .no) := post
    cases q : tk x.cls with
    | none =>
      rw [q] at post
      exact post.elim
    | some b =>
      rw [q] at post
      refine ⟨b, hk _ _ q, fun eb a na => ?_, fun eb => ?_⟩
      · subst eb
        have od : okD x d := by
          unfold okD
          unfold XcAt at at_d
          cases fe : x.fs with
          | none =>
            rw [fe] at at_d
            exact at_d
          | some fs =>
            rw [fe] at at_d
            obtain ⟨dd, ed, _⟩ := at_d
            exact ⟨dd, ed⟩
        obtain ⟨F2, r2, le⟩ := r1.wipe1 (i := i) hx ns (some (.ref a))
        replace post : PoS G p D W (if i < s1.sl.length then (match fx x (wipeS s1 [i]) with
          | .ok (.rt h) s2 => .ok (.rt h) s2
          | .ok fl s2 => .ok fl (wipeS s2 [i])
          | _ => .no) else .no) := post
        split at post
        · rename_i hi
          have r3 : RLw (G.sx (xcOf x d) (xpOf G i a)) p (wipeS s1 [i]) (σ1.set i (some (.ref a))) H1 F2 := r2.sx (fun dd fs e2 => by
            unfold xcOf at e2
            split at e2
            · rename_i fs' dd' ef
              cases e2
              unfold XcAt at at_d
              rw [ef] at at_d
              obtain ⟨dd2, ed2, at2, n2⟩ := at_d
              cases ed2
              exact ⟨at2, fun c => n2 (le _ c)⟩
            · cases e2) (by
            refine ⟨r2.wf.xs, ?_⟩
            rw [List.getElem?_set_self (by rw [r1.wf.len]; exact hi)])
          have back : ∀ {s2 : Sta} {σ2 : L2.St} {H2 : Hp}, RL (G.sx (xcOf x d) (xpOf G i a)) p s2 σ2 H2 → RL G p (wipeS s2 [i]) (σ2.set i none) H2 := fun z => by
            obtain ⟨F4, z⟩ := z
            obtain ⟨F5, z5, _⟩ := (z.unsx z.wf.xs.1 hc).wipe1 (i := i) hx ns none
            exact ⟨F5, z5⟩
          refine hs a x d od p (wipeS s1 [i]) (σ1.set i (some (.ref a))) H1 _ ns r3.rl ?_
          cases e2 : fx x (wipeS s1 [i]) with
          | no =>
            rw [e2] at post
            exact post
          | ex _ _ =>
            rw [e2] at post
            exact post.elim
          | ok fl s2 =>
            rw [e2] at post
            cases fl with
            | nx => exact fun σ2 H2 z => post _ _ (back z)
            | bk => exact fun σ2 H2 z => post _ _ (back z)
            | ct => exact fun σ2 H2 z => post _ _ (back z)
            | rt h =>
              intro v σ2 H2 z
              obtain ⟨F4, z⟩ := z
              exact post v σ2 H2 ⟨F4, z.unsx z.wf.xs.1 hc⟩
        · exact post.elim
      · subst eb
        exact post d σ1 H1 ⟨F1, r1, at_d⟩
/-- except C: without a name -/
def fTryO (tk : Str → Option Bool) (fb : FS) (fx : Xn → FS) : FS := fun s => match fb s with
  | .ex e s1 => (match tk e.cls with
    | some true => (match fx e s1 with
      | .ok fl s2 => .ok fl s2
      | _ => .no)
    | some false => .ex e s1
    | none => .no)
  | r => r
theorem sem_tryO {tb : WX → TS} {ts : Addr → Value → Option Addr → TS} {tk : Str → Option Bool} {fb : FS} {fx : Xn → FS} (hk : ∀ x b, tk x = some b → PySem.W.exmOne G.K (.ref (He.ga G.K x)) (.ref (He.ga G.K C)) = some b)
    (hb : ∀ W', SemS G W' (tb W') fb) (hs : ∀ a e d, okD e d → SemS G W0 (ts a (.ref (He.ga G.K e.cls)) d) (fx e)) :
    SemS G W (fun D σ H => tb (wOnly G.K (.ref (He.ga G.K C)) ts W D) D σ H) (fTryO tk fb fx) := fun p s σ H D ns r0 post => by
  refine hb _ p s σ H D ns r0 ?_
  unfold fTryO at post
  cases e : fb s with
  | no =>
    rw [e] at post
    exact post
  | ok fl s1 =>
    rw [e] at post
    cases fl <;> exact post
  | ex x s1 =>
    rw [e] at post
    intro d σ1 H1 r1
    obtain ⟨F1, r1, at_d⟩ := r1
    replace post : PoS G p D W (match tk x.cls with
      | some true => (match fx x s1 with
        | .ok fl s2 => .ok fl s2
        | _ => .no)
      | some false => .ex x s1
      | none => .no) := post
    cases q : tk x.cls with
    | none =>
      rw [q] at post
      exact post.elim
    | some b =>
      rw [q] at post
      refine ⟨b, hk _ _ q, fun eb a na => ?_, fun eb => ?_⟩
      · subst eb
        have od : okD x d := by
          unfold okD
          unfold XcAt at at_d
          cases fe : x.fs with
          | none =>
            rw [fe] at at_d
            exact at_d
          | some fs =>
            rw [fe] at at_d
            obtain ⟨dd, ed, _⟩ := at_d
            exact ⟨dd, ed⟩
        replace post : PoS G p D W (match fx x s1 with
          | .ok fl s2 => .ok fl s2
          | _ => .no) := post
        refine hs a x d od p s1 σ1 H1 D ns r1.rl ?_
        cases e2 : fx x s1 with
        | no =>
          rw [e2] at post
          exact post
        | ex _ _ =>
          rw [e2] at post
          exact post.elim
        | ok fl s2 =>
          rw [e2] at post
          cases fl <;> exact post
      · subst eb
        exact post d σ1 H1 ⟨F1, r1, at_d⟩
/-! ### asked, read: in the suite -/
def fIsX (tk : Str → Option Bool) (e : Xn) : FE := fun s => match tk e.cls with
  | some b => .ok (vf (.bool b)) s
  | none => .no
theorem sem_isX {e : Xn} {d : Option Addr} {a : Addr} {tk : Str → Option Bool} (hk : ∀ x b, tk x = some b → takesB G.K (He.ga G.K x) (He.ga G.K C) b = true ∧ ExcC G.K (He.ga G.K x)) (od : okD e d) :
    SemE (G.sx (xcOf e d) (xpOf G i a)) W (tCB (rIsX G.K a (.ref (He.ga G.K e.cls)) d) (tCons (tVar i) (tCons (tC (.ref (He.ga G.K C))) tNil))) (fIsX tk e) := fun p s σ H Q r post => by
  obtain ⟨F, r⟩ := r
  unfold fIsX at post
  split at post
  · rename_i b q
    obtain ⟨t, ec⟩ := hk _ _ q
    have at_i : σ[i]? = some (some (.ref a)) := r.wf.xs.2
    refine ⟨.ref a, at_i, r_isX t ec ?_ (post _ _ (r.rl.pushF fun _ => .bl b))⟩
    unfold okD at od
    cases fe : e.fs with
    | none =>
      rw [fe] at od
      exact Or.inl od
    | some fs =>
      rw [fe] at od
      obtain ⟨dd, ed⟩ := od
      have q2 : (G.sx (xcOf e d) (xpOf G i a)).xc = some (dd, fs) := by
        show xcOf e d = _
        unfold xcOf
        rw [fe, ed]
      exact Or.inr ⟨dd, _, ed, (r.xcl dd fs q2).1⟩
  · exact post.elim
def fXf (x f : Str) (e : Xn) : FE := fun s => match e.fs with
  | some fs => if e.cls = x then (match (fs.map fun p => (p.1, p.2)).reverse.lookup f with
    | some d => if flatD d = true then .ok (vf d) s else .no
    | none => .no) else .no
  | none => .no
theorem lookup_fld {f : Str} {d : PyData} : ∀ {l : List (Str × PyData)}, l.lookup f = some d → (l.map fun p => (p.1, valD p.2)).lookup f = some (valD d)
  | [], h => by cases h
  | (k, z) :: l, h => by
    show ((k, valD z) :: l.map fun p => (p.1, valD p.2)).lookup f = _
    rw [List.lookup_cons] at h ⊢
    split
    · rename_i q
      rw [q] at h
      cases h
      rfl
    · rename_i q
      rw [q] at h
      exact lookup_fld h
theorem sem_xf {e : Xn} {d : Option Addr} {a : Addr} {f : Str} (od : okD e d) : SemE (G.sx (xcOf e d) (xpOf G i a)) W (tXf a (.ref (He.ga G.K e.cls)) d (He.ga G.K x) f (tVar i)) (fXf x f e) := fun p s σ H Q r post => by
  obtain ⟨F, r⟩ := r
  unfold fXf at post
  split at post
  · rename_i fs fe
    split at post
    · rename_i ec
      split at post
      · rename_i v el
        split at post
        · rename_i fl
          have at_i : σ[i]? = some (some (.ref a)) := r.wf.xs.2
          unfold okD at od
          rw [fe] at od
          obtain ⟨dd, ed⟩ := od
          have q2 : (G.sx (xcOf e d) (xpOf G i a)).xc = some (dd, fs) := by
            show xcOf e d = _
            unfold xcOf
            rw [fe, ed]
          refine ⟨.ref a, at_i, rfl, by rw [ec], dd, fldV fs, valD v, ed, (r.xcl dd fs q2).1, ?_, post _ _ (r.rl.pushF fun _ => Rp.of_flat fl)⟩
          unfold fldV
          rw [← List.map_reverse]
          have := lookup_fld el
          simpa using this
        · exact post.elim
      · exact post.elim
    · exact post.elim
  · exact post.elim
end
/-! ### X(), X without __init__ -/
theorem pmk_own0 {X : Cx} {C : Addr} {bmB : List Value} {B newId initId : String} {x : Str} {p pos : Pos} (Fa : ExcBaseFacts B newId initId bmB) (isx : PySem.W.excIn X.K C bmB newId = true) (gl : X.mg x = some (.ref C)) (keeps : PySem.W.keepIn X.K (.ref C) = true) (rs : Raises X (.ref C)) (hg : Gl X x) (nodb : (x == ("__debug__" : Str)) = false := by decide) :
    PMk X (.Call (.Name x p) [] [] pos) (fun _ H Q => Q (.ref C) none H) := by
  intro pins s σ H Q I h
  refine wpAny_Call_Name_kw (ld_glob I hg gl ?_ nodb)
  refine PySem.W.callWith_K0 I.kIn keeps ?_
  obtain ⟨_, _, _, _, _, _, _, _, _, _, _, _, _, _, _, _, _, at_C, at_N, noinit, tail⟩ := exc_obj I.kIn isx
  exact wpAny_call_exc_subT Fa tail at_C at_N noinit (fun h' e hm => mk_of I hm rs h (I.hok.gone hm.new)) (Nat.zero_le _)
end Z
/-! # two of one's own lists handed back in a tuple, taken apart at once -/
namespace Z
open PySem PySem.Spec PyProof.Rows L2 GxR
section
variable {G : Fr} {W : WX} {p p' : Pd} {s s' : Sta} {σ σ' : L2.St} {H H' : Hp} {F : Ix → List Addr} {v v1 v2 : V} {w w1 w2 : Vl} {d d1 d2 : PyData} {sh : Sh} {i j : Nat} {T : Addr}
theorem get2 {x y : V × Hd} : (p ++ [x, y])[p.length]? = some x ∧ (p ++ [x, y])[p.length + 1]? = some y := by
  constructor
  · rw [List.getElem?_append_right (Nat.le_refl _), Nat.sub_self]
    rfl
  · rw [List.getElem?_append_right (Nat.le_add_right _ _), Nat.add_sub_cancel_left]
    rfl
theorem get2_lt {x y z : V × Hd} {k : Nat} (h : (p ++ [x, y])[k]? = some z) : (k < p.length ∧ p[k]? = some z) ∨ (k = p.length ∧ z = x) ∨ (k = p.length + 1 ∧ z = y) := by
  by_cases l : k < p.length
  · rw [List.getElem?_append_left l] at h
    exact Or.inl ⟨l, h⟩
  · rw [List.getElem?_append_right (Nat.le_of_not_lt l)] at h
    match e : k - p.length with
    | 0 =>
      rw [e] at h
      exact Or.inr (Or.inl ⟨by omega, by simpa using h.symm⟩)
    | 1 =>
      rw [e] at h
      exact Or.inr (Or.inr ⟨by omega, by simpa using h.symm⟩)
    | k' + 2 =>
      rw [e] at h
      simp at h
/-- two roots at the pile's top become the items of a new tuple -/
def Fj (F : Ix → List Addr) (n : Nat) : Ix → List Addr := fun x => if x = .pd n then F (.pd n) ++ F (.pd (n + 1)) else if x = .pd (n + 1) then [] else F x
theorem Fj_at {n : Nat} : Fj F n (.pd n) = F (.pd n) ++ F (.pd (n + 1)) := if_pos rfl
theorem Fj_un {n : Nat} : Fj F n (.pd (n + 1)) = [] := by
  unfold Fj
  rw [if_neg (by intro e; injection e with e; omega), if_pos rfl]
theorem Fj_ne {n : Nat} {x : Ix} (h1 : x ≠ .pd n) (h2 : x ≠ .pd (n + 1)) : Fj F n x = F x := by
  unfold Fj
  rw [if_neg h1, if_neg h2]
theorem Fj_mem {n : Nat} {x : Ix} {a : Addr} (h : a ∈ Fj F n x) : (x = .pd n ∧ (a ∈ F (.pd n) ∨ a ∈ F (.pd (n + 1)))) ∨ (x ≠ .pd n ∧ x ≠ .pd (n + 1) ∧ a ∈ F x) := by
  by_cases h1 : x = .pd n
  · rw [h1, Fj_at] at h
    exact Or.inl ⟨h1, List.mem_append.mp h⟩
  · by_cases h2 : x = .pd (n + 1)
    · rw [h2, Fj_un] at h
      cases h
    · rw [Fj_ne h1 h2] at h
      exact Or.inr ⟨h1, h2, h⟩
theorem RLw.join (r : RLw G (p ++ [(v1, .val ⟨d1, sh, false⟩), (v2, .val ⟨d2, sh, false⟩)]) s σ H F) (hT : H T = none) :
    RLw G (p ++ [(.ref T, .val ⟨.tuple [d1, d2], .mt sh, false⟩)]) s σ (upd H T (.tup [v1, v2])) (Fj F p.length) := by
  have q1 : Rt (p ++ [(v1, Hd.val ⟨d1, sh, false⟩), (v2, .val ⟨d2, sh, false⟩)]) s σ (.pd p.length) v1 ⟨d1, sh, false⟩ := get2.1
  have q2 : Rt (p ++ [(v1, Hd.val ⟨d1, sh, false⟩), (v2, .val ⟨d2, sh, false⟩)]) s σ (.pd (p.length + 1)) v2 ⟨d2, sh, false⟩ := get2.2
  have up : ∀ a o, H a = some o → upd H T (.tup [v1, v2]) a = some o := fun a o e => by
    rw [upd_ne (ne_of_none e hT)]
    exact e
  have cf : ∀ a, CF G (Fj F p.length) a → CF G F a := fun a c => by
    rcases c with c | ⟨x, c⟩
    · exact Or.inl c
    · rcases Fj_mem c with ⟨_, c | c⟩ | ⟨_, _, c⟩
      · exact Or.inr ⟨_, c⟩
      · exact Or.inr ⟨_, c⟩
      · exact Or.inr ⟨_, c⟩
  have m : Mv (CF G F) H (CF G (Fj F p.length)) (upd H T (.tup [v1, v2])) := ⟨fun a o e n => ⟨up a o e, fun c => n (cf a c)⟩⟩
  have same : ∀ a, (∃ x, a ∈ F x) → upd H T (.tup [v1, v2]) a = H a := fun a ⟨x, h⟩ => by
    obtain ⟨o, e⟩ := r.there h
    rw [e]
    exact up a o e
  have old : ∀ {x v w}, Rt (p ++ [(.ref T, Hd.val ⟨.tuple [d1, d2], .mt sh, false⟩)]) s σ x v w → x ≠ .pd p.length → Rt (p ++ [(v1, Hd.val ⟨d1, sh, false⟩), (v2, .val ⟨d2, sh, false⟩)]) s σ x v w ∧ x ≠ .pd (p.length + 1) := fun {x v w} z n => by
    cases x with
    | sl i => exact ⟨z, fun e => by cases e⟩
    | pd k =>
      rcases getp z with z | ⟨rfl, _⟩
      · have l := (List.getElem?_eq_some_iff.mp z).1
        refine ⟨?_, fun e => by injection e with e; omega⟩
        show (p ++ _)[k]? = _
        rw [List.getElem?_append_left l]
        exact z
      · exact (n rfl).elim
  refine ⟨fun x v w z => ?_, fun x n => ?_, fun x y a hx hy => ?_, fun x => ?_, fun x a ha => ?_, fun a o e n1 n2 => up a o (r.kp a o e n1 n2), fun P hP => ⟨(r.tab P hP).1, ?_⟩, fun a b => ?_, fun a h => ?_, fun dd fs e => m.mv dd _ (r.xcl dd fs e).1 (r.xcl dd fs e).2, ⟨fun k v i z => ?_, r.wf.len, r.wf.slv, r.wf.lent, r.wf.xs⟩⟩
  · by_cases e : x = .pd p.length
    · subst e
      have z' : (p ++ [(.ref T, Hd.val ⟨.tuple [d1, d2], .mt sh, false⟩)])[p.length]? = some (v, .val w) := z
      rw [getp_new] at z'
      cases z'
      rw [Fj_at]
      refine ⟨T, [v1, v2], [d1, d2], rfl, rfl, StT.of (fun c => r.new hT (cf T c)) upd_same, ?_⟩
      have o1 := (r.own _ _ _ q1).mv m (fun a ha => same a ⟨_, ha⟩)
      have o2 := (r.own _ _ _ q2).mv m (fun a ha => same a ⟨_, ha⟩)
      have := OwL.cons o1 (OwL.cons o2 OwL.nil)
      rw [List.append_nil] at this
      exact this
    · obtain ⟨z1, e2⟩ := old z e
      rw [Fj_ne e e2]
      exact (r.own x v w z1).mv m fun a ha => same a ⟨_, ha⟩
  · by_cases e : x = .pd p.length
    · subst e
      exact ⟨_, _, getp_new⟩
    · by_cases e2 : x = .pd (p.length + 1)
      · subst e2
        rw [Fj_un] at n
        exact (n rfl).elim
      · rw [Fj_ne e e2] at n
        obtain ⟨v, w, z⟩ := r.emp x n
        refine ⟨v, w, ?_⟩
        cases x with
        | sl i => exact z
        | pd k =>
          rcases get2_lt z with ⟨_, z⟩ | ⟨rfl, _⟩ | ⟨rfl, _⟩
          · exact getp_old z
          · exact (e rfl).elim
          · exact (e2 rfl).elim
  · rcases Fj_mem hx with ⟨e1, h1⟩ | ⟨n1, n1', h1⟩ <;> rcases Fj_mem hy with ⟨e2, h2⟩ | ⟨n2, n2', h2⟩
    · rw [e1, e2]
    · exfalso
      rcases h1 with h1 | h1
      · exact n2 (r.dis _ _ a h2 h1)
      · exact n2' (r.dis _ _ a h2 h1)
    · exfalso
      rcases h2 with h2 | h2
      · exact n1 (r.dis _ _ a h1 h2)
      · exact n1' (r.dis _ _ a h1 h2)
    · exact r.dis _ _ a h1 h2
  · by_cases e : x = .pd p.length
    · rw [e, Fj_at]
      refine List.nodup_append.mpr ⟨r.nod _, r.nod _, fun a ha b hb e => ?_⟩
      subst e
      have := r.dis _ _ a ha hb
      injection this with this
      omega
    · by_cases e2 : x = .pd (p.length + 1)
      · rw [e2, Fj_un]
        exact List.nodup_nil
      · rw [Fj_ne e e2]
        exact r.nod x
  · rcases Fj_mem ha with ⟨_, h | h⟩ | ⟨_, _, h⟩
    · exact r.nb _ a h
    · exact r.nb _ a h
    · exact r.nb _ a h
  · obtain ⟨ps, e, t⟩ := (r.tab P hP).2
    exact ⟨ps, up _ _ e, t⟩
  · obtain ⟨o, e⟩ := r.bd a b
    exact ⟨o, up a o e⟩
  · obtain ⟨n, o, e⟩ := r.fd a h
    exact ⟨n, o, up a o e⟩
  · rcases getp z with z | ⟨_, z⟩
    · refine r.wf.hd k v i ?_
      rw [List.getElem?_append_left (List.getElem?_eq_some_iff.mp z).1]
      exact z
    · cases z
/-- .. and apart again -/
def Fp (F : Ix → List Addr) (n : Nat) (f g : List Addr) : Ix → List Addr := fun x => if x = .pd n then f else if x = .pd (n + 1) then g else F x
theorem Fp_at {n : Nat} {f g : List Addr} : Fp F n f g (.pd n) = f := if_pos rfl
theorem Fp_un {n : Nat} {f g : List Addr} : Fp F n f g (.pd (n + 1)) = g := by
  unfold Fp
  rw [if_neg (by intro e; injection e with e; omega), if_pos rfl]
theorem Fp_ne {n : Nat} {f g : List Addr} {x : Ix} (h1 : x ≠ .pd n) (h2 : x ≠ .pd (n + 1)) : Fp F n f g x = F x := by
  unfold Fp
  rw [if_neg h1, if_neg h2]
theorem RLw.part (r : RLw G (p ++ [(v, .val ⟨.tuple [d1, d2], .mt sh, false⟩)]) s σ H F) : ∃ a v1 v2 F', v = .ref a ∧ StT G.K (CF G F') H a [v1, v2] ∧ RLw G (p ++ [(v1, .val ⟨d1, sh, false⟩), (v2, .val ⟨d2, sh, false⟩)]) s σ H F' := by
  have q0 : Rt (p ++ [(v, Hd.val ⟨.tuple [d1, d2], .mt sh, false⟩)]) s σ (.pd p.length) v ⟨.tuple [d1, d2], .mt sh, false⟩ := getp_new
  have o := r.own _ _ _ q0
  obtain ⟨a, vs, ds, rfl, e2, st, ow⟩ := o
  injection e2 with e2
  subst e2
  obtain ⟨v1, v2, f, g, rfl, ef, o1, o2⟩ : ∃ v1 v2 f g, vs = [v1, v2] ∧ F (.pd p.length) = f ++ g ∧ Ow G.K (CF G F) H sh v1 d1 f ∧ Ow G.K (CF G F) H sh v2 d2 g := by
    generalize F (.pd p.length) = fp at ow
    cases ow with
    | cons a b =>
      cases b with
      | cons b c =>
        cases c
        exact ⟨_, _, _, _, rfl, by rw [List.append_nil], a, b⟩
  have fe : F (.pd (p.length + 1)) = [] := r.noPd (by simp)
  have inF : ∀ {x a}, a ∈ Fp F p.length f g x → (x = .pd p.length ∧ a ∈ f) ∨ (x = .pd (p.length + 1) ∧ a ∈ g) ∨ (x ≠ .pd p.length ∧ x ≠ .pd (p.length + 1) ∧ a ∈ F x) := fun {x a} h => by
    by_cases h1 : x = .pd p.length
    · rw [h1, Fp_at] at h
      exact Or.inl ⟨h1, h⟩
    · by_cases h2 : x = .pd (p.length + 1)
      · rw [h2, Fp_un] at h
        exact Or.inr (Or.inl ⟨h2, h⟩)
      · rw [Fp_ne h1 h2] at h
        exact Or.inr (Or.inr ⟨h1, h2, h⟩)
  have toF : ∀ {x a}, a ∈ Fp F p.length f g x → ∃ y, a ∈ F y := fun {x a} h => by
    rcases inF h with ⟨_, h⟩ | ⟨_, h⟩ | ⟨_, _, h⟩
    · exact ⟨.pd p.length, by rw [ef]; exact List.mem_append_left _ h⟩
    · exact ⟨.pd p.length, by rw [ef]; exact List.mem_append_right _ h⟩
    · exact ⟨_, h⟩
  have cf : ∀ a, CF G (Fp F p.length f g) a → CF G F a := fun a c => by
    rcases c with c | ⟨x, c⟩
    · exact Or.inl c
    · exact Or.inr (toF c)
  have m : Mv (CF G F) H (CF G (Fp F p.length f g)) H := ⟨fun a o e n => ⟨e, fun c => n (cf a c)⟩⟩
  have nd := r.nod (.pd p.length)
  rw [ef] at nd
  obtain ⟨nf, ng, nfg⟩ := List.nodup_append.mp nd
  refine ⟨a, v1, v2, Fp F p.length f g, rfl, st.mv m, ⟨fun x v w z => ?_, fun x n => ?_, fun x y a hx hy => ?_, fun x => ?_, fun x a ha => ?_, r.kp, r.tab, r.bd, r.fd, fun dd fs e => m.mv dd _ (r.xcl dd fs e).1 (r.xcl dd fs e).2, ⟨fun k v i z => ?_, r.wf.len, r.wf.slv, r.wf.lent, r.wf.xs⟩⟩⟩
  · by_cases h1 : x = .pd p.length
    · subst h1
      have z' : (p ++ [(v1, Hd.val ⟨d1, sh, false⟩), (v2, .val ⟨d2, sh, false⟩)])[p.length]? = some (v, .val w) := z
      rw [get2.1] at z'
      cases z'
      rw [Fp_at]
      exact o1.mv m fun _ _ => rfl
    · by_cases h2 : x = .pd (p.length + 1)
      · subst h2
        have z' : (p ++ [(v1, Hd.val ⟨d1, sh, false⟩), (v2, .val ⟨d2, sh, false⟩)])[p.length + 1]? = some (v, .val w) := z
        rw [get2.2] at z'
        cases z'
        rw [Fp_un]
        exact o2.mv m fun _ _ => rfl
      · rw [Fp_ne h1 h2]
        refine (r.own x v w ?_).mv m fun _ _ => rfl
        cases x with
        | sl i => exact z
        | pd k =>
          rcases get2_lt z with ⟨_, z⟩ | ⟨rfl, _⟩ | ⟨rfl, _⟩
          · exact getp_old z
          · exact (h1 rfl).elim
          · exact (h2 rfl).elim
  · by_cases h1 : x = .pd p.length
    · subst h1
      exact ⟨_, _, get2.1⟩
    · by_cases h2 : x = .pd (p.length + 1)
      · subst h2
        exact ⟨_, _, get2.2⟩
      · rw [Fp_ne h1 h2] at n
        obtain ⟨v, w, z⟩ := r.emp x n
        refine ⟨v, w, ?_⟩
        cases x with
        | sl i => exact z
        | pd k =>
          rcases getp z with z | ⟨rfl, _⟩
          · show (p ++ _)[k]? = _
            rw [List.getElem?_append_left (List.getElem?_eq_some_iff.mp z).1]
            exact z
          · exact (h1 rfl).elim
  · have inT : ∀ {a}, a ∈ f ∨ a ∈ g → a ∈ F (.pd p.length) := fun h => by
      rw [ef]
      exact List.mem_append.mpr h
    rcases inF hx with ⟨e1, h1⟩ | ⟨e1, h1⟩ | ⟨n1, n1', h1⟩ <;> rcases inF hy with ⟨e2, h2⟩ | ⟨e2, h2⟩ | ⟨n2, n2', h2⟩
    · rw [e1, e2]
    · exact (nfg a h1 a h2 rfl).elim
    · exact (n2 (r.dis _ _ a h2 (inT (Or.inl h1)))).elim
    · exact (nfg a h2 a h1 rfl).elim
    · rw [e1, e2]
    · exact (n2 (r.dis _ _ a h2 (inT (Or.inr h1)))).elim
    · exact (n1 (r.dis _ _ a h1 (inT (Or.inl h2)))).elim
    · exact (n1 (r.dis _ _ a h1 (inT (Or.inr h2)))).elim
    · exact r.dis _ _ a h1 h2
  · by_cases h1 : x = .pd p.length
    · rw [h1, Fp_at]
      exact nf
    · by_cases h2 : x = .pd (p.length + 1)
      · rw [h2, Fp_un]
        exact ng
      · rw [Fp_ne h1 h2]
        exact r.nod x
  · obtain ⟨y, h⟩ := toF ha
    exact r.nb y a h
  · rcases get2_lt z with ⟨_, z⟩ | ⟨_, z⟩ | ⟨_, z⟩
    · exact r.wf.hd k v i (getp_old z)
    · cases z
    · cases z
/-! ### return (a, b); a, b = f(..) -/
def fRetT2 (i j : Nat) : FS := fun s => match ownAt s i, ownAt s j with
  | some ⟨d1, .ls .fz, false⟩, some ⟨d2, .ls .fz, false⟩ => .ok (.rt (.val ⟨.tuple [d1, d2], .mt (.ls .fz), false⟩)) (wipeS s [i, j])
  | _, _ => .no
theorem sem_retT2 (ne : i ≠ j) : SemS G W (tRet (tTup (tCons (tVar i) (tCons (tVar j) tNil)))) (fRetT2 i j) := fun p s σ H D ns r0 post => by
  obtain ⟨F, r⟩ := r0
  unfold fRetT2 at post
  split at post
  · rename_i d1 d2 e1 e2
    obtain ⟨e1, _⟩ := ownAt_some e1
    obtain ⟨e2, _⟩ := ownAt_some e2
    obtain ⟨v1, h1⟩ := r.wf.slv i _ e1
    obtain ⟨v2, h2⟩ := r.wf.slv j _ e2
    refine ⟨v1, h1, v2, h2, by show 2 ≤ sizeLine; decide, fun T hT => post _ σ _ ?_⟩
    have key : ∀ {k : Nat} {z : V × Hd}, (p ++ [(v1, Hd.val ⟨d1, .ls .fz, false⟩), (v2, .val ⟨d2, .ls .fz, false⟩)])[k]? = some z → (k < p.length ∧ p[k]? = some z) ∨ (k = p.length ∧ z = (v1, .val ⟨d1, .ls .fz, false⟩)) ∨ (k = p.length + 1 ∧ z = (v2, .val ⟨d2, .ls .fz, false⟩)) := get2_lt
    have r2 : RLw G (p ++ [(v1, .val ⟨d1, .ls .fz, false⟩), (v2, .val ⟨d2, .ls .fz, false⟩)]) (wipeS s [i, j]) σ H _ := r.reix (fun x => if x = .pd p.length then .sl i else if x = .pd (p.length + 1) then .sl j else x) (fun x v w z => by
      cases x with
      | sl k =>
        obtain ⟨z1, z2⟩ := z
        obtain ⟨n, z2⟩ := wipeL_at z2
        exact ⟨w, ⟨z1, z2⟩, rfl, rfl⟩
      | pd k =>
        rcases key z with ⟨l, z'⟩ | ⟨ek, z'⟩ | ⟨ek, z'⟩
        · rw [if_neg (by intro e; injection e with e; omega), if_neg (by intro e; injection e with e; omega)]
          exact ⟨w, z', rfl, rfl⟩
        · subst ek
          cases z'
          rw [if_pos rfl]
          exact ⟨_, ⟨h1, e1⟩, rfl, rfl⟩
        · subst ek
          cases z'
          rw [if_neg (by intro e; injection e with e; omega), if_pos rfl]
          exact ⟨_, ⟨h2, e2⟩, rfl, rfl⟩) (fun x y va vb wa wb za zb _ e => by
      have notSl : ∀ {k v w}, Rt (p ++ [(v1, Hd.val ⟨d1, .ls .fz, false⟩), (v2, .val ⟨d2, .ls .fz, false⟩)]) (wipeS s [i, j]) σ (.sl k) v w → k ≠ i ∧ k ≠ j := fun {k v w} z => by
        obtain ⟨n, _⟩ := wipeL_at z.2
        simp at n
        exact n
      by_cases a1 : x = .pd p.length <;> by_cases b1 : y = .pd p.length
      · rw [a1, b1]
      · rw [if_pos a1, if_neg b1] at e
        by_cases b2 : y = .pd (p.length + 1)
        · rw [if_pos b2] at e
          injection e with e
          exact (ne e).elim
        · rw [if_neg b2] at e
          subst e
          exact ((notSl zb).1 rfl).elim
      · rw [if_neg a1, if_pos b1] at e
        by_cases a2 : x = .pd (p.length + 1)
        · rw [if_pos a2] at e
          injection e with e
          exact (ne e.symm).elim
        · rw [if_neg a2] at e
          subst e
          exact ((notSl za).1 rfl).elim
      · rw [if_neg a1, if_neg b1] at e
        by_cases a2 : x = .pd (p.length + 1) <;> by_cases b2 : y = .pd (p.length + 1)
        · rw [a2, b2]
        · rw [if_pos a2, if_neg b2] at e
          subst e
          exact ((notSl zb).2 rfl).elim
        · rw [if_neg a2, if_pos b2] at e
          subst e
          exact ((notSl za).2 rfl).elim
        · rw [if_neg a2, if_neg b2] at e
          exact e) ⟨fun k v i' z => (by
        rcases key z with ⟨_, z'⟩ | ⟨_, z'⟩ | ⟨_, z'⟩
        · exact (ns k v i' z').elim
        · cases z'
        · cases z'), by rw [r.wf.len]; exact wipeL_len.symm, fun k w z => r.wf.slv k w (wipeL_at z).2, fun k w z l => r.wf.lent k w (wipeL_at z).2 l, r.wf.xs⟩
    exact ⟨_, r2.join hT⟩
  · exact post.elim
def fAsgT2 (fe : FE) (i j : Nat) : FS := fun s => (fe s).bind fun h s1 => match h with
  | .val ⟨.tuple [d1, d2], .mt sh, false⟩ => (match putSl s1 i ⟨d1, sh, false⟩ with
    | some s2 => nxO (putSl s2 j ⟨d2, sh, false⟩)
    | none => .no)
  | _ => .no
theorem sem_asgT2 {te : TE} {fe : FE} (he : SemE G W te fe) (hx : XD G [i]) (hx' : XD G [j]) : SemS G W (tAsg te (gTup G.K 2 (gCons (gName i) (gCons (gName j) gNil)))) (fAsgT2 fe i j) := fun p s σ H D ns r0 post => by
  refine he.bindS (P := PoS G p D W) (fun z => z) r0 post (fun _ _ z => z) fun h s1 v H1 post r1 => ?_
  split at post
  · rename_i d1 d2 sh
    split at post
    · rename_i s2 e1
      unfold nxO at post
      split at post
      · rename_i s3 e2
        obtain ⟨F, r1⟩ := r1
        obtain ⟨a, v1, v2, F', rfl, st, r2⟩ := r1.part
        refine ⟨a, [v1, v2], rfl, st.sq, rfl, v1, [v2], rfl, v2, [], rfl, rfl, post _ _ ?_⟩
        have nsv : ∀ {x : V} {w : Vl}, NoS [(x, Hd.val w)] := fun k v i z => by
          match k with
          | 0 => simp at z
          | k + 1 => simp at z
        have r3 : RL G (p ++ [(v2, .val ⟨d2, sh, false⟩)] ++ [(v1, .val ⟨d1, sh, false⟩)]) s1 σ H1 := RL.front (p := p) (x := (v1, .val ⟨d1, sh, false⟩)) (xs := [(v2, .val ⟨d2, sh, false⟩)]) ⟨F', r2⟩ nsv
        obtain ⟨F3, r3⟩ := r3
        have ns2 := ns.app (nsv (x := v2) (w := ⟨d2, sh, false⟩))
        obtain ⟨F4, r4⟩ := r3.toSlot hx (fun k v q z => (ns2 k v q z).elim) e1
        exact r4.toSlot hx' (fun k v q z => (ns k v q z).elim) e2
      · exact post.elim
    · exact post.elim
  · exact post.elim
end
end Z
/-! # what the printed texts name -/
namespace Z
open PySem PySem.Spec PyProof.Rows L2 GxR
theorem hu1 {k : Nat} {A : Around} (r : Room k A) : A.units + 1 < cLine := by
  have := r.units
  omega
theorem pt_either {X : Cx} {e : Expr} {t1 t2 : TT} (h1 : PT X e t1) (h2 : PT X e t2) : PT X e (fun σ H Q => t1 σ H Q ∨ t2 σ H Q) := ⟨fun pins s σ H Q I q => q.elim (h1.run pins s σ H Q I) (h2.run pins s σ H Q I)⟩
theorem mtK {X : Cx} {K : PySem.W.Frag} {id : String} {r : PySem.W.Frag → V → List V → Hp → VK → Prop} (h : X.K = K) (o : MtR X id (r X.K)) : MtR X id (r K) := by
  rw [← h]
  exact o
/-- y = {k: v for ..} -/
theorem swD_true {kx vx : Expr} {cs : List Comprehension} {sc : Scope} {at_ yat : Pos} {y : Str} {l : Nat} {env : Env} (fn : env.scope.kind = .function) (own : env.scope.names.lookup y = some .local) (ln : (yat.line == at_.line) = true)
    (apart : (sc.names.any fun (n, k) => n == y && (k == .local || k == .cell)) = false) : swapsWith (.DictComp kx vx cs sc at_) (some (.Name y yat)) l env = pure true := by
  have k1 : env.kindOf y = some .local := own
  have k2 : env.blockKind = .function := by
    unfold Env.blockKind
    rw [fn]
    rfl
  unfold swapsWith
  simp only [k2, k1, apart, Expr.pos, ln]
  rfl
theorem ps_setDc {X : Cx} {i : Nat} {y : Str} {yat : Pos} {kx vx tg iter : Expr} {ifs : List Expr} {sc : Scope} {own : List (Str × Nat)} {at_ sat : Pos} {wi : TI} {g : TG} {tt : TT} {tk tv : TE} (calm : X.calm = true) (nd : X.N.Nodup) (hy : X.N[i]? = some y) (loc : X.env.scope.names.lookup y = some .local)
    (sw : swapsWith (.DictComp kx vx [⟨tg, iter, ifs, 0⟩] sc at_) (some (.Name y yat)) sat.line X.env = pure true) (hi : PI X tg iter wi) (ok : BlkOk X.N X.env.scope sc own)
    (hg : ∀ (s : Shared) (H : Hp) (C : Addr) (cl : List (Str × Addr)) (fp : List Addr), PG (X.blk s H sc (compEnvC sc cl C X.env) fp) tg g) (ht : ∀ (s : Shared) (H : Hp) (C : Addr) (cl : List (Str × Addr)) (fp : List Addr), PTs (X.blk s H sc (compEnvC sc cl C X.env) fp) ifs tt)
    (hk : ∀ (s : Shared) (H : Hp) (C : Addr) (cl : List (Str × Addr)) (fp : List Addr), PE (X.blk s H sc (compEnvC sc cl C X.env) fp) kx tk) (hv : ∀ (s : Shared) (H : Hp) (C : Addr) (cl : List (Str × Addr)) (fp : List Addr), PE (X.blk s H sc (compEnvC sc cl C X.env) fp) vx tv)
    (nofold : ∀ x, foldedSetIterable iter X.env x = pure x := by intro _; rfl) : PS X (.Assign [.Name y yat] (.DictComp kx vx [⟨tg, iter, ifs, 0⟩] sc at_) sat) (tAsg (tDc wi g tt tk tv (own.map (·.2))) (gName i)) := by
  constructor
  intro pins s σ H D I h
  rw [exec_Assign_Name_used _ _ _ _ sw]
  refine wpAny_bind (wpAny_standAt (wpAny_bind ?_))
  show wpAny _ X.A (do let _ ← comprehension (.DictComp kx vx [⟨tg, iter, ifs, 0⟩] sc at_) sc X.env (firstIterPos [⟨tg, iter, ifs, 0⟩] at_) newDict false (eval iter X.env) (some (assign (.Name y yat) X.env))) _ _ s
  replace h : tDc wi g tt tk tv (own.map (·.2)) σ H (fun x H1 => gName i x σ H1 D.nx) := h
  refine wpAny_bind (thn (dc_core (Qf := fun _ s' => SP X pins D .next s') calm nd I hi ok hg ht hk hv nofold h fun L C s' m H' I' q ns f => ?_) fun _ s' z => wpAny_pure (wpAny_pure z))
  show wpAny _ _ (assign (.Name y yat) X.env (.ref L)) _ _ _
  refine wpAny_assign_Name (store_ok2 (v := V.ref L) I' nd hy (.inl loc) rfl (fun s2 I2 ⟨a, sb, ha⟩ => ?_) (.inr loc))
  obtain ⟨g0, g1, g2, g3, g4, g5⟩ := f
  have ne : C ≠ a := by
    rcases ha with z | z
    · rw [z]
      exact g1
    · exact fun e => g4 y a z e.symm
  exact ⟨m, ns.sameBut sb ne, fun h3 sb3 => ⟨_, H', I2.turned (t' := s2.toks) (fun b o hb e => (sb3.2 b hb).trans e) g0 g1 g3 g4 g5, q⟩⟩
theorem pg_tupK {X : Cx} {K : PySem.W.Frag} {elts : List Expr} {ts : TGs} {kk n : Nat} {tpos : Pos} (h : X.K = K) (calm : X.calm = true) (hs : PGs X elts ts) (hn : (assignEach elts X.env).length = n := by rfl)
    (nostar : (assignEach elts X.env).findIdx? (·.1) = none := by rfl) : PG X (.Tuple elts kk tpos) (gTup K n ts) := by
  rw [← h]
  exact pg_tup calm hs hn nostar
theorem nin {l : List Nat} {i : Nat} (h : l.contains i = false) : i ∉ l := fun m => by
  rw [List.contains_iff_mem.mpr m] at h
  cases h
theorem sub_of {l m : List Nat} (h : (l.all fun i => m.contains i) = true) : ∀ i ∈ l, i ∈ m := fun i q => List.contains_iff_mem.mp (List.all_eq_true.mp h i q)
/-- targets -/
def fgNil : Sta → List PyData → Option Sta := fun s ds => match ds with
  | [] => some s
  | _ => none
def fgCons (fg : Sta → Hd → Option Sta) (fgs : Sta → List PyData → Option Sta) : Sta → List PyData → Option Sta := fun s ds => match ds with
  | d :: ds => (match fg s (vf d) with
    | some s1 => fgs s1 ds
    | none => none)
  | [] => none
def fgTup (n : Nat) (fgs : Sta → List PyData → Option Sta) : Sta → Hd → Option Sta := fun s h => match lookH s h with
  | some ⟨.tuple ds, _, _⟩ => if ds.length = n then fgs s ds else none
  | _ => none
section
variable {G : Fr} {W : WX} {te : TE} {fe : FE}
theorem sm_gnil : SemGs G [] gNil fgNil := semgs_nil
theorem sm_gcons {T U : List Nat} {g : TG} {gs : TGs} {fg : Sta → Hd → Option Sta} {fgs : Sta → List PyData → Option Sta} (hg : SemG G T g fg) (hs : SemGs G U gs fgs) : SemGs G (T ++ U) (gCons g gs) (fgCons fg fgs) := semgs_cons hg hs
theorem sm_gtup {T : List Nat} {n : Nat} {gs : TGs} {fgs : Sta → List PyData → Option Sta} (hs : SemGs G T gs fgs) : SemG G T (gTup G.K n gs) (fgTup n fgs) := semg_tup hs
/-- ranges -/
def fRng1 (fr : FA) : Sta → Rs (List PyData) := fun s => (fr s).bind fun hs s1 => match argsOf s1 hs with
  | some [⟨.int j, _, _⟩] => if okRg j = true then .ok (intsR 0 j.toNat) s1 else .no
  | _ => .no
def fRng2 (fr : FA) : Sta → Rs (List PyData) := fun s => (fr s).bind fun hs s1 => match argsOf s1 hs with
  | some [⟨.int i, _, _⟩, ⟨.int j, _, _⟩] => if okRg i = true ∧ okRg j = true then .ok (intsR i (j - i).toNat) s1 else .no
  | _ => .no
theorem sm_rng1 {tr : TA} {fr : FA} (ha : SemA G W tr fr) : SemI G W (iRng1 tr) (fRng1 fr) := sem_rng1 ha
theorem sm_rng2 {tr : TA} {fr : FA} (ha : SemA G W tr fr) : SemI G W (iRng2 tr) (fRng2 fr) := sem_rng2 ha
/-- -e -/
def fNeg (fe : FE) : FE := fun s => (fe s).bind fun h s1 => match lookH s1 h with
  | some ⟨.int i, _, _⟩ => .ok (vf (.int (-i))) s1
  | _ => .no
theorem sem_neg (he : SemE G W te fe) : SemE G W (tUn (rU fun i => .int (-i)) te) (fNeg fe) := fun p s σ H Q r0 post => by
  refine he.bind (P := PoE G p σ Q W) (fun z => z) r0 post (fun _ _ z => z) fun h s1 v H1 post r1 => ?_
  split at post
  · rename_i i sh l e
    obtain ⟨F, r1⟩ := r1
    have o := r1.opd getp_new e
    rw [o.flat rfl rfl]
    exact ⟨i, rfl, post _ _ (r1.rl.popN.pushF fun _ => .int _)⟩
  · exact post.elim
/-- x += e, ints -/
def gPlusI (a b : Vl) : Option Vl := match a.d, b.d with
  | .int i, .int j => some (.f (.int (i + j)))
  | _, _ => none
theorem ips_add : IpS G (ipI fun i j => i + j) gPlusI := fun C H x y w1 w2 w Q c o1 o2 e m => by
  unfold gPlusI at e
  split at e
  · rename_i i j e1 e2
    cases e
    rw [o1.flat e1 rfl, o2.flat e2 rfl]
    exact ⟨i, j, rfl, rfl, m.flat c (.int _)⟩
  · cases e
theorem ips_sub : IpS G (ipI fun i j => i - j) gMinus := fun C H x y w1 w2 w Q c o1 o2 e m => by
  unfold gMinus at e
  split at e
  · rename_i i j e1 e2
    cases e
    rw [o1.flat e1 rfl, o2.flat e2 rfl]
    exact ⟨i, j, rfl, rfl, m.flat c (.int _)⟩
  · cases e
end
/-! ### the end -/
theorem spF_lenE {K : PySem.W.Frag} {cs : List Addr} {n : Nat} {g : FDef} {vs : List V} {H : Hp} {Q : VK} (h : spF K cs n g vs H Q fun _ _ _ => False) : vs.length = n := spF_len h
theorem law_from {K : PySem.W.Frag} {cs : List Addr} {g : FDef} {a : Addr} {ns : List Int} {H : Hp} (i : ∀ P ∈ cs, H P = some (.tbl #[])) (hs : SqL K H a (ns.map V.int)) (hg : ∃ l as ob, g [scriptD ns] [] = .ok ⟨.bool true, .fz, l⟩ as ob) :
    spF K cs 1 g [.ref a] H (fun v _ => v = .bl true) fun _ _ _ => False := by
  obtain ⟨l, as, ob, hg⟩ := hg
  exact law_in (fun P hP => ⟨#[], i P hP, trivial⟩) hs hg
end Z
/-! # a list of one's own, walked where it stands -/
namespace Z
open PySem PySem.Spec PyProof.Rows L2 GxR
section
variable {G : Fr} {W : WX} {p q : Pd} {s s' : Sta} {σ σ' : L2.St} {H H' : Hp} {F : Ix → List Addr} {v : V} {w : Vl} {d : PyData} {ds : List PyData} {c i : Nat} {D : Ends} {g : TG} {fg : Sta → Hd → Option Sta} {tb : TS} {fb : FS} {vs : List Nat} {tt : TT} {ft : FT} {te tk tv : TE} {fe fk fv : FE}
theorem RLw.toAt (r : RLw G p s σ H F) (h : σ[c]? = some (some v)) : RLw (G.at c v) p s σ H F :=
  ⟨r.own, r.emp, r.dis, r.nod, r.nb, r.kp, r.tab, r.bd, r.fd, r.xcl, ⟨r.wf.hd, r.wf.len, r.wf.slv, r.wf.lent, r.wf.xs, h⟩⟩
theorem RLw.unAt (r : RLw (G.at c v) p s σ H F) : RLw G p s σ H F ∧ σ[c]? = some (some v) :=
  ⟨⟨r.own, r.emp, r.dis, r.nod, r.nb, r.kp, r.tab, r.bd, r.fd, r.xcl, ⟨r.wf.hd, r.wf.len, r.wf.slv, r.wf.lent, r.wf.xs.1⟩⟩, r.wf.xs.2⟩
theorem RL.unAt (r : RL (G.at c v) p s σ H) : RL G p s σ H ∧ σ[c]? = some (some v) := by
  obtain ⟨F, r⟩ := r
  exact ⟨⟨F, r.unAt.1⟩, r.unAt.2⟩
theorem RL.toAt (r : RL G p s σ H) (h : σ[c]? = some (some v)) : RL (G.at c v) p s σ H := by
  obtain ⟨F, r⟩ := r
  exact ⟨F, r.toAt h⟩
theorem RLx.unAt {e : Xn} {d : Option Addr} (r : RLx (G.at c v) p s σ H e d) : RLx G p s σ H e d := by
  obtain ⟨F, r, x⟩ := r
  refine ⟨F, r.unAt.1, ?_⟩
  unfold XcAt at x ⊢
  cases h : e.fs with
  | none =>
    rw [h] at x
    exact x
  | some fs =>
    rw [h] at x
    exact x
theorem PoS.at {r : Rs Fl} (z : PoS G p D W r) : PoS (G.at c v) p D W r := by
  match r, z with
  | .ok .nx s, z => exact fun σ' H' r' => z σ' H' r'.unAt.1
  | .ok .ct s, z => exact fun σ' H' r' => z σ' H' r'.unAt.1
  | .ok .bk s, z => exact fun σ' H' r' => z σ' H' r'.unAt.1
  | .ok (.rt h) s, z => exact fun v σ' H' r' => z v σ' H' r'.unAt.1
  | .ex e s, z => exact fun d σ' H' r' => z d σ' H' r'.unAt
def loopI (c : Nat) (fg : Sta → Hd → Option Sta) (fb : FS) : Nat → Nat → FS
  | 0, k => fun s => match ownAt s c with
    | some ⟨.list ds, .ls .fz, _⟩ => if ds.length = k then .ok .nx s else .no
    | _ => .no
  | n + 1, k => fun s => match ownAt s c with
    | some ⟨.list ds, .ls .fz, _⟩ => (match ds[k]? with
      | some d => (match fg s (vf d) with
        | none => .no
        | some s1 => (fb s1).bind fun fl s2 => (match fl with
          | .nx => loopI c fg fb n (k + 1) s2
          | .ct => loopI c fg fb n (k + 1) s2
          | .bk => .ok .nx s2
          | .rt h => .ok (.rt h) s2))
      | none => .ok .nx s)
    | _ => .no
def fForN (c : Nat) (fg : Sta → Hd → Option Sta) (fb : FS) : FS := fun s => match ownAt s c with
  | some ⟨.list ds, .ls .fz, _⟩ => loopI c fg fb ds.length 0 s
  | _ => fFor (fWalk (fN c)) fg fb s
theorem sem_forN {T : List Nat} (hg : ∀ v, SemG (G.at c v) T g fg) (hb : ∀ v, SemS (G.at c v) W tb fb) (n : c ∉ G.cv) : SemS G W (tFor (iSeq G.K (tVar c)) g tb) (fForN c fg fb) := fun p s σ H D ns r post => by
  have other : PoS G p D W (fFor (fWalk (fN c)) fg fb s) → tFor (iSeq G.K (tVar c)) g tb D σ H := fun post => by
    have : ∃ v, σ[c]? = some (some v) := by
      obtain ⟨F, r⟩ := r
      cases e : s.sl[c]? with
      | none =>
        have : fFor (fWalk (fN c)) fg fb s = .no := by
          unfold fFor fWalk fN
          rw [e]
          rfl
        rw [this] at post
        exact post.elim
      | some o =>
        cases o with
        | none =>
          have : fFor (fWalk (fN c)) fg fb s = .no := by
            unfold fFor fWalk fN
            rw [e]
            rfl
          rw [this] at post
          exact post.elim
        | some w => exact r.wf.slv c w e
    obtain ⟨v, hv⟩ := this
    exact sem_for (G := G.at c v) (sem_seqI (sem_n n)) (hg v) (hb v) p s σ H D ns (r.toAt hv) post.at
  unfold fForN at post
  split at post
  · rename_i ds l e
    have own : ∃ a, σ[c]? = some (some (.ref a)) ∧ ∃ vs, H a = some (.lst vs) := by
      obtain ⟨F, r⟩ := r
      obtain ⟨v, hv⟩ := r.wf.slv c _ (ownAt_some e).1
      obtain ⟨a, vs, rfl, h1, _⟩ := own_list r e hv
      exact ⟨a, hv, vs, h1⟩
    obtain ⟨a, hv, vs0, ha0⟩ := own
    refine Or.inl ⟨.ref a, hv, a, rfl, ⟨vs0, SqL.of ha0⟩, ?_⟩
    refine ⟨fun k m σ' H' => ∃ s', RL (G.at c (.ref a)) p s' σ' H' ∧ PoS G p D W (loopI c fg fb m k s'), ⟨ds.length, s, r.toAt hv, post⟩, ?_⟩
    rintro k m σ' H' ⟨s', r', post⟩
    have at_a := r'.unAt.2
    have lst : ∀ {ds : List PyData} {l : Bool}, ownAt s' c = some ⟨.list ds, .ls .fz, l⟩ → ∃ F vs, RLw (G.at c (.ref a)) p s' σ' H' F ∧ H' a = some (.lst vs) ∧ RpAll G.K (CF G F) H' vs ds := fun {ds l} e => by
      obtain ⟨F, r'⟩ := r'
      obtain ⟨a', vs, e2, h1, h2⟩ := own_list r' e at_a
      cases e2
      exact ⟨F, vs, r', h1, h2⟩
    cases m with
    | zero =>
      unfold loopI at post
      split at post
      · rename_i ds' l' e'
        split at post
        · rename_i hk
          obtain ⟨F, vs, r2, h1, h2⟩ := lst e'
          exact Or.inl ⟨⟨vs, SqL.of h1, by rw [h2.len]; exact Nat.le_of_eq hk⟩, post σ' H' r'.unAt.1⟩
        · exact post.elim
      · exact post.elim
    | succ m =>
      unfold loopI at post
      split at post
      · rename_i ds' l' e'
        obtain ⟨F, vs, r2, h1, h2⟩ := lst e'
        split at post
        · rename_i d hd
          obtain ⟨x0, hx0, rx0⟩ := h2.get hd
          refine Or.inr ⟨⟨vs, x0, SqL.of h1, hx0⟩, fun σ2 H2 => ∃ s2, RL (G.at c (.ref a)) p s2 σ2 H2 ∧ PoS G p D W (loopI c fg fb m (k + 1) s2), fun σ2 H2 z => ⟨m, Nat.lt_succ_self m, z⟩, fun x H2 y => ?_⟩
          obtain ⟨rfl, hx⟩ := y
          have ex := hx vs (SqL.of h1)
          rw [hx0] at ex
          cases ex
          split at post
          · exact post.elim
          · rename_i s3 e3
            refine hg (.ref a) p s' σ' H2 x0 _ s3 _ (ns.safe T) ⟨F, r2.push rx0⟩ e3 fun σ3 H3 _ r3 => ?_
            refine (hb (.ref a)).bind (P := PoS G p D W) (fun z => z) ns r3 post (fun e4 s4 z => PoS.at (D := { D with nx := _, ct := _, bk := D.nx }) (r := .ex e4 s4) z) fun fl s4 post => ?_
            cases fl with
            | nx => exact fun σ4 H4 r4 => ⟨s4, r4, post⟩
            | ct => exact fun σ4 H4 r4 => ⟨s4, r4, post⟩
            | bk => exact fun σ4 H4 r4 => post σ4 H4 r4.unAt.1
            | rt h => exact fun v σ4 H4 r4 => post v σ4 H4 r4.unAt.1
        · rename_i hd
          exact Or.inl ⟨⟨vs, SqL.of h1, by rw [h2.len]; exact List.getElem?_eq_none_iff.mp hd⟩, post σ' H' r'.unAt.1⟩
      · exact post.elim
  · exact other post
/-! ### in a comprehension -/
def lcI (c : Nat) (fg : Sta → Hd → Option Sta) (ft : FT) (fe : FE) (vs : List Nat) : Nat → Nat → List PyData → Sta → Rs (List PyData)
  | 0, k, acc, s => match ownAt s c with
    | some ⟨.list ds, .ls .fz, _⟩ => if ds.length = k then .ok acc s else .no
    | _ => .no
  | n + 1, k, acc, s => match ownAt s c with
    | some ⟨.list ds, .ls .fz, _⟩ => (match ds[k]? with
      | some d => (match fg s (vf d) with
        | none => .no
        | some s1 => (ft s1).bnd fun b s2 => if b = true then (fe s2).bnd fun h s3 => (match takeFz s3 h with
          | some (y, s4) => if acc.length < 100000 then lcI c fg ft fe vs n (k + 1) (acc ++ [y]) (wipeS s4 vs) else .no
          | none => .no) else lcI c fg ft fe vs n (k + 1) acc (wipeS s2 vs))
      | none => .ok acc s)
    | _ => .no
def fLcN (c : Nat) (fg : Sta → Hd → Option Sta) (ft : FT) (fe : FE) (vs : List Nat) : FE := fun s => match ownAt s c with
  | some ⟨.list ds, .ls .fz, _⟩ => (lcI c fg ft fe vs ds.length 0 [] (wipeS s vs)).bnd fun acc s2 => .ok (.val ⟨.list acc, .ls .fz, false⟩) s2
  | _ => fLc (fWalk (fN c)) fg ft fe vs s
theorem sem_lcN {T : List Nat} (hg : SemG G T g fg) (ht : SemT G W0 tt ft) (he : SemE G W0 te fe) (sub : ∀ i ∈ T, i ∈ vs) (cv : ∀ i ∈ vs, i ∈ G.cv) (hx : XD G vs) (n : c ∉ G.cv) : SemE G W (tLc (iSeq G.K (tVar c)) g tt te vs) (fLcN c fg ft fe vs) := fun p s σ H Q r0 post => by
  unfold fLcN at post
  split at post
  · rename_i ds l e
    have own : ∃ a, σ[c]? = some (some (.ref a)) ∧ ∃ vs, H a = some (.lst vs) := by
      obtain ⟨F, r⟩ := r0
      obtain ⟨v, hv⟩ := r.wf.slv c _ (ownAt_some e).1
      obtain ⟨a, vs, rfl, h1, _⟩ := own_list r e hv
      exact ⟨a, hv, vs, h1⟩
    obtain ⟨a, hv, vs0, ha0⟩ := own
    refine Or.inl ⟨.ref a, hv, a, rfl, ⟨vs0, SqL.of ha0⟩, ?_⟩
    have nc : c ∉ vs := fun m => n (cv c m)
    have hvw : (wipe σ vs)[c]? = some (some (.ref a)) := (wipe_at nc).trans hv
    intro D hD
    have rD := r0.newL hD
    have start := rD.wipe hx (σ' := wipe σ vs) cv (fun i n => wipe_at n) (wipe_length σ vs)
    have finish : ∀ {acc : List PyData} {s' : Sta} {H' : Hp}, RL G (p ++ [(.ref D, .val ⟨.list acc, .ls .fz, false⟩)]) s' (wipe σ vs) H' → (∀ (k : Nat) w, s'.sl[k]? = some (some w) → k ∉ vs) → PoE G p σ Q W (.ok (.val ⟨.list acc, .ls .fz, false⟩) s') → Q (.ref D) H' := fun {acc s' H'} r' clean post => by
      have hlen : σ.length = s'.sl.length := by
        obtain ⟨F, r'⟩ := r'
        rw [← r'.wf.len, wipe_length]
      have sf := r'.cvs cv
      exact post _ _ (r'.slots (hx _ _ fun k n => (wipe_at n).symm) hlen (fun k w z => ⟨z, (wipe_at (clean k w z)).symm⟩) fun j v k z => (wipe_at (sf j v k z)).symm)
    refine ⟨fun k m H' => ∃ acc s', RL G (p ++ [(.ref D, .val ⟨.list acc, .ls .fz, false⟩)]) s' (wipe σ vs) H' ∧ (∀ (k : Nat) w, s'.sl[k]? = some (some w) → k ∉ vs) ∧
      PoE G p σ Q W ((lcI c fg ft fe vs m k acc s').bnd fun acc s2 => .ok (.val ⟨.list acc, .ls .fz, false⟩) s2), ⟨ds.length, [], wipeS s vs, start, fun k w z => (wipeL_at z).1, post⟩, ?_⟩
    rintro k m H' ⟨acc, s', r', clean, post⟩
    have lst : ∀ {ds : List PyData} {l : Bool}, ownAt s' c = some ⟨.list ds, .ls .fz, l⟩ → ∃ F us, RLw G (p ++ [(.ref D, .val ⟨.list acc, .ls .fz, false⟩)]) s' (wipe σ vs) H' F ∧ H' a = some (.lst us) ∧ RpAll G.K (CF G F) H' us ds := fun {ds l} e => by
      obtain ⟨F, r'⟩ := r'
      obtain ⟨a', us, e2, h1, h2⟩ := own_list r' e hvw
      cases e2
      exact ⟨F, us, r', h1, h2⟩
    cases m with
    | zero =>
      unfold lcI at post
      split at post
      · rename_i ds' l' e'
        split at post
        · rename_i hk
          obtain ⟨F, us, r2, h1, h2⟩ := lst e'
          exact Or.inl ⟨⟨us, SqL.of h1, by rw [h2.len]; exact Nat.le_of_eq hk⟩, finish r' clean post⟩
        · exact post.elim
      · exact post.elim
    | succ m =>
      unfold lcI at post
      split at post
      · rename_i ds' l' e'
        obtain ⟨F, us, r2, h1, h2⟩ := lst e'
        split at post
        · rename_i d hd
          obtain ⟨x0, hx0, rx0⟩ := h2.get hd
          refine Or.inr ⟨⟨us, x0, SqL.of h1, hx0⟩, fun H2 => ∃ acc s2, RL G (p ++ [(.ref D, .val ⟨.list acc, .ls .fz, false⟩)]) s2 (wipe σ vs) H2 ∧ (∀ (k : Nat) w, s2.sl[k]? = some (some w) → k ∉ vs) ∧
            PoE G p σ Q W ((lcI c fg ft fe vs m (k + 1) acc s2).bnd fun acc s2 => .ok (.val ⟨.list acc, .ls .fz, false⟩) s2), fun H2 z => ⟨m, Nat.lt_succ_self m, z⟩, fun x H2 y => ?_⟩
          obtain ⟨rfl, hxx⟩ := y
          have ex := hxx us (SqL.of h1)
          rw [hx0] at ex
          cases ex
          split at post
          · exact post.elim
          · rename_i s3 e3
            refine hg _ s' _ H2 x0 _ s3 _ (fun j v k z m => (r'.cvs cv) j v k z (sub k m)) ⟨F, r2.push rx0⟩ e3 fun σ3 H3 o3 r3 => ⟨wipe_only o3 sub, ?_⟩
            have back : ∀ {P : Pd} {s4 : Sta} {H4 : Hp}, RL G P s4 σ3 H4 → RL G P (wipeS s4 vs) (wipe σ vs) H4 := fun r4 => r4.wipe hx cv (fun k n => (o3.2 k fun t => n (sub k t)).symm) o3.1.symm
            refine ht.bnd (P := fun z : Rs (List PyData) => PoE G p σ Q W (z.bnd fun acc s2 => .ok (.val ⟨.list acc, .ls .fz, false⟩) s2)) (fun z => z) r3 post fun b s4 H4 post r4 => ?_
            cases b with
            | false => exact ⟨acc, wipeS s4 vs, back r4, fun k w z => (wipeL_at z).1, post⟩
            | true =>
              rw [if_pos rfl]
              refine he.bnd (P := fun z : Rs (List PyData) => PoE G p σ Q W (z.bnd fun acc s2 => .ok (.val ⟨.list acc, .ls .fz, false⟩) s2)) (fun z => z) r4 post fun h s5 v5 H5 post r5 => ?_
              split at post
              · rename_i y5 s6 t
                split at post
                · rename_i hz
                  obtain ⟨F5, r5⟩ := r5
                  obtain ⟨F6, r6⟩ := r5.take getp_new t
                  rw [set_last] at r6
                  obtain ⟨us, hu, ra⟩ := r6.topL
                  have ry := (r6.own (.pd (p ++ [(V.ref D, Hd.val ⟨.list acc, .ls .fz, false⟩)]).length) v5 (.f y5) getp_new).2
                  have r7 := r6.mutP (ra.app (.cons ry .nil))
                  exact ⟨us, hu, Nat.lt_of_lt_of_le (by rw [ra.len]; exact hz) (show 100000 ≤ sizeLine by decide), acc ++ [y5], wipeS s6 vs, back r7.rl.popN, fun k w z => (wipeL_at z).1, post⟩
                · exact post.elim
              · exact post.elim
        · rename_i hd
          exact Or.inl ⟨⟨us, SqL.of h1, by rw [h2.len]; exact List.getElem?_eq_none_iff.mp hd⟩, finish r' clean post⟩
      · exact post.elim
  · exact sem_lc (sem_seqI (sem_n n)) hg ht he sub cv hx p s σ H Q r0 post
end
end Z
/-! # a, b = x, y; a, b, c = x, y, z -/
namespace Z
open PySem PySem.Spec PyProof.Rows L2 GxR
/-- what a handle shows, as a value -/
def toVal (s : Sta) : Hd → Option (Vl × Sta)
  | .val w => if w.s.tpl = true then none else some (⟨w.d, w.s, false⟩, s)
  | .slot i => match takeFz s (.slot i) with
    | some (d, s') => some (.f d, s')
    | none => none
section
variable {G : Fr} {W : WX} {p : Pd} {s s' : Sta} {σ : L2.St} {H : Hp} {F : Ix → List Addr} {v v1 v2 v3 : V} {w w1 w2 : Vl} {h h1 h2 h3 : Hd} {i j k n : Nat} {tr : TA} {fr : FA}
theorem RLw.relab (r : RLw G p s σ H F) (e : p[j]? = some (v, .val w)) : ∃ F', RLw G (p.set j (v, .val ⟨w.d, w.s, false⟩)) s σ H F' := by
  refine ⟨_, r.reix id (fun x v' w' z => ?_) (fun x y _ _ _ _ _ _ _ e => e) ⟨fun k v' i z => ?_, r.wf.len, r.wf.slv, r.wf.lent, r.wf.xs⟩⟩
  · cases x with
    | sl i => exact ⟨w', z, rfl, rfl⟩
    | pd k =>
      rcases getset z with ⟨rfl, e2⟩ | ⟨_, z⟩
      · injection e2 with e2 e3
        injection e3 with e3
        subst e2 e3
        exact ⟨w, e, rfl, rfl⟩
      · exact ⟨w', z, rfl, rfl⟩
  · rcases getset z with ⟨_, e2⟩ | ⟨_, z⟩
    · cases e2
    · exact r.wf.hd k v' i z
theorem RLw.toVal (r : RLw G p s σ H F) (e : p[j]? = some (v, h)) (t : Z.toVal s h = some (w, s')) : ∃ F', RLw G (p.set j (v, .val w)) s' σ H F' := by
  cases h with
  | val w0 =>
    unfold Z.toVal at t
    dsimp only at t
    split at t
    · cases t
    · cases t
      exact r.relab e
  | slot i =>
    unfold Z.toVal at t
    dsimp only at t
    split at t
    · rename_i d s1 q
      cases t
      exact r.take e q
    · cases t
def fPar (i j : Nat) (fr : FA) : FS := fun s => (fr s).bind fun hs s1 => match hs with
  | [h1, h2] => (match toVal s1 h1 with
    | some (w1, s2) => (match toVal s2 h2 with
      | some (w2, s3) => (match putSl s3 i w1 with
        | some s4 => nxO (putSl s4 j w2)
        | none => .no)
      | none => .no)
    | none => .no)
  | _ => .no
theorem nos1 {x : V} {w : Vl} : NoS [(x, Hd.val w)] := fun k v i z => by
  match k with
  | 0 => simp at z
  | k + 1 => simp at z
theorem sem_par (hx : XD G [i]) (hx' : XD G [j]) (ha : SemA G W tr fr) : SemS G W (tPar i j tr) (fPar i j fr) := fun p s σ H D ns r0 post => by
  refine ha.bind (P := PoS G p D W) (fun z => z) r0 post (fun _ _ z d H' r' => z d σ H' r') fun hs s1 vs H1 post l r1 => ?_
  split at post
  · rename_i h1 h2
    split at post
    · rename_i w1 s2 t1
      split at post
      · rename_i w2 s3 t2
        split at post
        · rename_i s4 e4
          unfold nxO at post
          split at post
          · rename_i s5 e5
            match vs, l with
            | [v1, v2], _ =>
              refine ⟨v1, v2, rfl, post _ _ ?_⟩
              obtain ⟨F, r1⟩ := r1
              have r1' : RLw G (p ++ [(v1, h1), (v2, h2)]) s1 σ H1 F := r1
              obtain ⟨F2, r2⟩ := r1'.toVal get2.1 t1
              have e1 : (p ++ [(v1, h1), (v2, h2)]).set p.length (v1, .val w1) = p ++ [(v1, .val w1), (v2, h2)] := by
                rw [List.set_append_right _ _ (Nat.le_refl _), Nat.sub_self]
                rfl
              rw [e1] at r2
              obtain ⟨F3, r3⟩ := r2.toVal get2.2 t2
              have e2 : (p ++ [(v1, .val w1), (v2, h2)]).set (p.length + 1) (v2, .val w2) = p ++ [(v1, .val w1), (v2, .val w2)] := by
                rw [List.set_append_right _ _ (Nat.le_add_right _ _), Nat.add_sub_cancel_left]
                rfl
              rw [e2] at r3
              have r4 : RL G (p ++ [(v2, .val w2)] ++ [(v1, .val w1)]) s3 σ H1 := RL.front (p := p) (x := (v1, .val w1)) (xs := [(v2, .val w2)]) ⟨F3, r3⟩ nos1
              obtain ⟨F4, r4⟩ := r4
              have ns2 := ns.app (nos1 (x := v2) (w := w2))
              obtain ⟨F5, r5⟩ := r4.toSlot hx (fun k v q z => (ns2 k v q z).elim) e4
              exact r5.toSlot hx' (fun k v q z => (ns k v q z).elim) e5
          · exact post.elim
        · exact post.elim
      · exact post.elim
    · exact post.elim
  · exact post.elim
end
end Z
/-! # functions of states, step by step -/
namespace Z
open PySem PySem.Spec PyProof.Rows L2 GxR
section
variable {s : Sta} {fa fb fc fe fk : FE} {ft fu : FT} {fr : FA} {fl fh : FO} {f g h : FS} {i j n k : Nat} {gg gg' : Vl → Vl → Option Vl} {gl : List Vl → Option Vl} {gv : Vl → List Vl → Option Vl} {m : LM} {fi : Sta → Rs (List PyData)} {fg : Sta → Hd → Option Sta} {fgs : Sta → List PyData → Option Sta} {vs : List Nat} {d : PyData} {F : FDef} {hd : Hd} {ob : List Ob1} {sl : List (Option Vl)} {w : Vl}
theorem ap_seq : fSeq f g s = (f s).bind fun fl s1 => match fl with
  | .nx => g s1
  | fl => .ok fl s1 := rfl
theorem ap_next : fNext s = .ok .nx s := rfl
theorem ap_bk : fBk s = .ok .bk s := rfl
theorem ap_ct : fCt s = .ok .ct s := rfl
theorem ap_ret : fRet fe s = (fe s).bind fun h s1 => .ok (.rt h) s1 := rfl
theorem ap_retN : fRetN s = .ok (.rt (vf .none)) s := rfl
theorem ap_drop : fDrop fe s = (fe s).bind fun _ s1 => .ok .nx s1 := rfl
theorem ap_if : fIfS ft f g s = (ft s).bind fun b s1 => if b = true then f s1 else g s1 := rfl
theorem ap_asg : fAsg fe fg s = (fe s).bind fun h s1 => nxO (fg s1 h) := rfl
theorem ap_aug : fAug i fe gg s = (fN i s).bind fun h s1 => (fe s1).bind fun h2 s2 => (look2 s2 h h2 gg).bind fun h3 s3 => nxO (asg s3 i h3) := rfl
theorem ap_c : fC d s = .ok (.val (.f d)) s := rfl
theorem ap_n : fN i s = match s.sl[i]? with
  | some (some w) => if w.s.cp = true then .ok (.val ⟨w.d, w.s, false⟩) s else .ok (.slot i) s
  | _ => .no := rfl
theorem ap_nv : fNv i s = match s.sl[i]? with
  | some (some w) => if w.s.cp = true then .ok (.val ⟨w.d, w.s, false⟩) s else .no
  | _ => .no := rfl
theorem ap_op : fOp gg fa fb s = (fa s).bind fun h1 s1 => (fb s1).bind fun h2 s2 => look2 s2 h1 h2 gg := rfl
theorem ap_and : fAnd fa fb s = (fa s).bind fun h s1 => onB s1 h fun b => if b = true then fb s1 else .ok (.val (.f (.bool false))) s1 := rfl
theorem ap_or : fOr fa fb s = (fa s).bind fun h s1 => onB s1 h fun b => if b = true then .ok (.val (.f (.bool true))) s1 else fb s1 := rfl
theorem ap_not : fNot fa s = (fa s).bind fun h s1 => onB s1 h fun b => .ok (.val (.f (.bool (!b)))) s1 := rfl
theorem ap_tv : fTv fa s = (fa s).bind fun h s1 => onB s1 h fun b => .ok b s1 := rfl
theorem ap_tt : fTt fa s = (fa s).bind fun h s1 => onT s1 h fun b => .ok b s1 := rfl
theorem ap_tand : fTand ft fu s = (ft s).bind fun b s1 => if b = true then fu s1 else .ok false s1 := rfl
theorem ap_tor : fTor ft fu s = (ft s).bind fun b s1 => if b = true then .ok true s1 else fu s1 := rfl
theorem ap_tnot : fTnot ft s = (ft s).bind fun b s1 => .ok (!b) s1 := rfl
theorem ap_ifx : fIf ft fa fb s = (ft s).bind fun b s1 => if b = true then fa s1 else fb s1 := rfl
theorem ap_chain : fChain gg gg' fa fb fc s = (fa s).bind fun h1 s1 => (fb s1).bind fun h2 s2 => (look2 s2 h1 h2 gg).bind fun h s3 => onB s3 h fun b =>
  if b = true then (fc s3).bind fun h3 s4 => look2 s4 h2 h3 gg' else .ok (.val (.f (.bool false))) s3 := rfl
theorem ap_nil : fNil s = .ok [] s := rfl
theorem ap_cons : fCons fa fr s = (fa s).bind fun h s1 => (fr s1).bind fun hs s2 => .ok (h :: hs) s2 := rfl
theorem ap_tup : fTup fr s = (fr s).bind fun hs s1 => match takeAll s1 hs with
  | some (ds, s2) => if ds.length ≤ 100000 then .ok (.val (.f (.tuple ds))) s2 else .no
  | none => .no := rfl
theorem ap_lst : fLst fr s = (fr s).bind fun hs s1 => match takeAll s1 hs with
  | some (ds, s2) => if ds.length ≤ 100000 then .ok (.val ⟨.list ds, .ls .fz, false⟩) s2 else .no
  | none => .no := rfl
theorem ap_call : fCallN n F fr s = (fr s).bind fun hs s1 => if hs.length = n then callD F s1 hs else .no := rfl
theorem ap_b : fB gl fr s = (fr s).bind fun hs s1 => match argsOf s1 hs with
  | some ws => (match gl ws with
    | some w => .ok (.val w) s1
    | none => .no)
  | none => .no := rfl
theorem ap_is {x : String} : fIs x fa s = (fa s).bind fun h s1 => match lookH s1 h with
  | some w => if okT x = true ∧ w.s.fzOk = true then .ok (.val (.f (.bool (isD w.d x)))) s1 else .no
  | none => .no := rfl
theorem ap_neg : fNeg fe s = (fe s).bind fun h s1 => match lookH s1 h with
  | some ⟨.int i, _, _⟩ => .ok (vf (.int (-i))) s1
  | _ => .no := rfl
theorem ap_nop : fNoP s = .ok none s := rfl
theorem ap_slice : fSlice fe fl fh s = (fe s).bind fun h s1 => (fl s1).bind fun lo s2 => (fh s2).bind fun hi s3 => match lookH s3 h with
  | some w1 => (match gSlice w1 lo hi with
    | some w => .ok (.val w) s3
    | none => .no)
  | none => .no := rfl
theorem ap_lm : fLm i m fr s = match ownAt s i with
  | some ⟨.list _, .ls .fz, _⟩ => (fr s).bind fun hs s1 => (match takeAll s1 hs with
    | some (es, s2) => (match ownAt s2 i with
      | some ⟨.list ds, .ls .fz, l⟩ => (match m ds es with
        | some (d, ds') => .ok (vf d) (s2.set i ⟨.list ds', .ls .fz, l⟩)
        | none => .no)
      | _ => .no)
    | none => .no)
  | _ => .no := rfl
theorem ap_mv {T : String} : fMv T gv fe fr s = (fe s).bind fun h s1 => match lookH s1 h with
  | some w1 => if kindT T w1 = true then (fr s1).bind fun hs s2 => (match lookH s2 h, argsOf s2 hs with
    | some w, some ws => (match gv w ws with
      | some w' => .ok (.val w') s2
      | none => .no)
    | _, _ => .no) else .no
  | none => .no := rfl
theorem ap_for : fFor fi fg f s = (fi s).bind fun ds s1 => loopF fg f ds s1 := rfl
theorem ap_forN : fForN i fg f s = match ownAt s i with
  | some ⟨.list ds, .ls .fz, _⟩ => loopI i fg f ds.length 0 s
  | _ => fFor (fWalk (fN i)) fg f s := rfl
theorem ap_lc : fLc fi fg ft fe vs s = (fi s).bind fun ds s1 => (lcF fg ft fe vs ds [] (wipeS s1 vs)).bnd fun acc s2 => .ok (.val ⟨.list acc, .ls .fz, false⟩) s2 := rfl
theorem ap_lcN : fLcN i fg ft fe vs s = match ownAt s i with
  | some ⟨.list ds, .ls .fz, _⟩ => (lcI i fg ft fe vs ds.length 0 [] (wipeS s vs)).bnd fun acc s2 => .ok (.val ⟨.list acc, .ls .fz, false⟩) s2
  | _ => fLc (fWalk (fN i)) fg ft fe vs s := rfl
theorem ap_dc : fDc fi fg ft fk fe vs s = (fi s).bind fun ds s1 => (dcF fg ft fk fe vs ds [] (wipeS s1 vs)).bnd fun acc s2 => .ok (.val ⟨.dict acc, .mp .fz, false⟩) s2 := rfl
theorem ap_yes : fYes s = .ok true s := rfl
theorem ap_walk : fWalk fe s = (fe s).bind fun h s1 => match takeFz s1 h with
  | some (.list ds, s2) => .ok ds s2
  | some (.tuple ds, s2) => .ok ds s2
  | some (.str x, s2) => .ok (x.cps.toList.map fun c => .str ⟨#[c]⟩) s2
  | _ => .no := rfl
theorem ap_rng1 : fRng1 fr s = (fr s).bind fun hs s1 => match argsOf s1 hs with
  | some [⟨.int j, _, _⟩] => if okRg j = true then .ok (intsR 0 j.toNat) s1 else .no
  | _ => .no := rfl
theorem ap_rng2 : fRng2 fr s = (fr s).bind fun hs s1 => match argsOf s1 hs with
  | some [⟨.int i, _, _⟩, ⟨.int j, _, _⟩] => if okRg i = true ∧ okRg j = true then .ok (intsR i (j - i).toNat) s1 else .no
  | _ => .no := rfl
theorem ap_rng3 : fRng3 fr s = (fr s).bind fun hs s1 => match argsOf s1 hs with
  | some [⟨.int i, _, _⟩, ⟨.int j, _, _⟩, ⟨.int k, _, _⟩] => if okRg i = true ∧ okRg j = true ∧ k = -1 then .ok (downR i (i - j).toNat) s1 else .no
  | _ => .no := rfl
theorem ap_rev1 : fRev1 fe s = (fe s).bind fun h s1 => match lookH s1 h with
  | some ⟨.int j, _, _⟩ => if okRg j = true then .ok (downR ((j.toNat : Nat) - 1) j.toNat) s1 else .no
  | _ => .no := rfl
theorem ap_enum : fEnum fr s = (fr s).bind fun hs s1 => match takeAll s1 hs with
  | some ([d], s2) => (match itemsD d with
    | some ds => .ok (enumF 0 ds) s2
    | none => .no)
  | _ => .no := rfl
theorem ap_store : fStore i fk fe s = match ownAt s i with
  | some ⟨.dict _, _, _⟩ => fDPut i fk fe s
  | _ => fAsg fe (fgSet i fk) s := rfl
theorem ap_gset : fgSet i fk s hd = match ownAt s i with
  | some ⟨.list _, .ls .fz, _⟩ => (match fk s with
    | .ok hk s1 => (match lookH s1 hk, takeFz s1 hd with
      | some ⟨.int k, _, _⟩, some (d, s2) => (match ownAt s2 i with
        | some ⟨.list ds, .ls .fz, l⟩ => (match ixN ds.length k with
          | some j => some (s2.set i ⟨.list (ds.set j d), .ls .fz, l⟩)
          | none => none)
        | _ => none)
      | _, _ => none)
    | _ => none)
  | _ => none := rfl
theorem ap_dnew : fDNew s = .ok (.val ⟨.dict [], .mp .fz, false⟩) s := rfl
theorem ap_gnil {ds : List PyData} : fgNil s ds = match ds with
  | [] => some s
  | _ => none := rfl
theorem ap_gcons {d : PyData} {ds : List PyData} : fgCons fg fgs s (d :: ds) = match fg s (vf d) with
  | some s1 => fgs s1 ds
  | none => none := rfl
theorem ap_gtup : fgTup n fgs s hd = match lookH s hd with
  | some ⟨.tuple ds, _, _⟩ => if ds.length = n then fgs s ds else none
  | _ => none := rfl
theorem ap_par : fPar i j fr s = (fr s).bind fun hs s1 => match hs with
  | [h1, h2] => (match toVal s1 h1 with
    | some (w1, s2) => (match toVal s2 h2 with
      | some (w2, s3) => (match putSl s3 i w1 with
        | some s4 => nxO (putSl s4 j w2)
        | none => .no)
      | none => .no)
    | none => .no)
  | _ => .no := rfl
theorem ap_rz0 {x : Str} : fRz0 x s = .ex ⟨x, none⟩ s := rfl
/-! names, handles -/
theorem ap_def {args : List Vl} {body : FS} : fDef n body args ob = match body (stIn args n ob) with
  | .ok .nx s => .ok (.f .none) (stOut args s.sl) s.ob
  | .ok (.rt h) s => (match retV s h with
    | some w => .ok w (stOut args s.sl) s.ob
    | none => .no)
  | .ok _ _ => .no
  | .ex e s => .ex e (stOut args s.sl) s.ob
  | .no => .no := rfl
theorem bnd_ok {α β : Type} {a : α} {k : α → Sta → Rs β} : (Rs.ok a s).bnd k = k a s := rfl
theorem cp_fz : Sh.cp .fz = true := rfl
theorem cp_rd : Sh.cp .rd = true := rfl
theorem cp_ls {t : Sh} : Sh.cp (.ls t) = false := rfl
theorem cp_mp {t : Sh} : Sh.cp (.mp t) = false := rfl
theorem lk_val {t : Sh} {l : Bool} (ht : t.tpl = false := by rfl) : lookH s (.val ⟨d, t, l⟩) = some ⟨d, t, l⟩ := by
  unfold lookH
  dsimp only
  rw [ht]
  rfl
end
end Z
/-! # what a function of states gives: rules that walk over it -/
namespace Z
open PySem PySem.Spec PyProof.Rows L2 GxR
/-- values -/
def WpB {α : Type} (r : Rs α) (E : Xn → Sta → Prop) (P : α → Sta → Prop) : Prop := match r with
  | .ok a s => P a s
  | .ex e s => E e s
  | .no => False
structure Wp {α : Type} (r : Rs α) (E : Xn → Sta → Prop) (P : α → Sta → Prop) : Prop where
  run : WpB r E P
/-- statements -/
def WsB (r : Rs Fl) (E : Xn → Sta → Prop) (R : Hd → Sta → Prop) (B C N : Sta → Prop) : Prop := match r with
  | .ok .nx s => N s
  | .ok (.rt h) s => R h s
  | .ok .bk s => B s
  | .ok .ct s => C s
  | .ex e s => E e s
  | .no => False
structure Ws (r : Rs Fl) (E : Xn → Sta → Prop) (R : Hd → Sta → Prop) (B C N : Sta → Prop) : Prop where
  run : WsB r E R B C N
/-- defs -/
def Wdr (r : Dr) (E : Xn → List (Option Vl) → List Ob1 → Prop) (P : Vl → List (Option Vl) → List Ob1 → Prop) : Prop := match r with
  | .ok w as ob => P w as ob
  | .ex e as ob => E e as ob
  | .no => False
/-- what a def is said to do; not to be unfolded -/
structure Spc (F : FDef) (args : List Vl) (ob : List Ob1) (E : Xn → List (Option Vl) → List Ob1 → Prop) (P : Vl → List (Option Vl) → List Ob1 → Prop) : Prop where
  run : Wdr (F args ob) E P
/-- what may fail to be there -/
def Wg {α : Type} (o : Option α) (N : α → Prop) : Prop := match o with
  | some s => N s
  | none => False
abbrev E0 : Xn → Sta → Prop := fun _ _ => False
abbrev D0 : Xn → List (Option Vl) → List Ob1 → Prop := fun _ _ _ => False
def nd : List Nat → Bool
  | [] => true
  | a :: l => !l.contains a && nd l
theorem nd_ok : ∀ {l : List Nat}, nd l = true → l.Nodup
  | [], _ => List.nodup_nil
  | a :: l, h => by
    unfold nd at h
    rw [Bool.and_eq_true] at h
    refine List.nodup_cons.mpr ⟨fun m => ?_, nd_ok h.2⟩
    have := h.1
    rw [Bool.not_eq_true', List.contains_eq_mem, decide_eq_false_iff_not] at this
    exact this m
/-- a slot that is not lent -/
def jk : Option Vl → Bool
  | none => true
  | some w => !w.l
def jkAt (sl : List (Option Vl)) (i : Nat) : Bool := match sl[i]? with
  | some o => jk o
  | none => false
section
variable {α β : Type} {s s1 s2 : Sta} {E : Xn → Sta → Prop} {P : Hd → Sta → Prop} {PA : List Hd → Sta → Prop} {PT : Bool → Sta → Prop} {PO : Option Int → Sta → Prop} {PI : List PyData → Sta → Prop} {R : Hd → Sta → Prop} {B C N : Sta → Prop} {fa fb fc fe fk fv : FE} {ft fu : FT} {fr : FA} {fl fh : FO} {f g : FS} {i j n k : Nat} {gg gg' : Vl → Vl → Option Vl} {gl : List Vl → Option Vl} {gv : Vl → List Vl → Option Vl} {m : LM} {fi : Sta → Rs (List PyData)} {fg : Sta → Hd → Option Sta} {fgs : Sta → List PyData → Option Sta} {vs : List Nat} {d : PyData} {ds es : List PyData} {F : FDef} {hd h1 h2 : Hd} {hs : List Hd} {ob : List Ob1} {sl sl' : List (Option Vl)} {w w1 w2 : Vl} {t : Sh} {l : Bool} {args : List Vl} {body : FS} {ED : Xn → List (Option Vl) → List Ob1 → Prop} {PD : Vl → List (Option Vl) → List Ob1 → Prop}
theorem wg_ex {N : α → Prop} {o : Option α} (h : Wg o N) : ∃ a, o = some a ∧ N a := by
  match o, h with
  | some a, h => exact ⟨a, rfl, h⟩
theorem wp_bind {P : α → Sta → Prop} {r : Rs β} {k : β → Sta → Rs α} (h : Wp r E fun a s => Wp (k a s) E P) : Wp (r.bind k) E P := by
  match r, h.run with
  | .ok _ _, h => exact h
  | .ex _ _, h => exact ⟨h⟩
theorem wp_bnd {P : α → Sta → Prop} {r : Rs β} {k : β → Sta → Rs α} (h : Wp r E0 fun a s => Wp (k a s) E P) : Wp (r.bnd k) E P := by
  match r, h.run with
  | .ok _ _, h => exact h
  | .ex _ _, h => exact h.elim
theorem wp_mono {P P' : α → Sta → Prop} {E' : Xn → Sta → Prop} {r : Rs α} (h : Wp r E P) (hE : ∀ e s, E e s → E' e s) (hP : ∀ a s, P a s → P' a s) : Wp r E' P' := by
  match r, h.run with
  | .ok _ _, h => exact ⟨hP _ _ h⟩
  | .ex _ _, h => exact ⟨hE _ _ h⟩
theorem ws_bind {r : Rs β} {k : β → Sta → Rs Fl} (h : Wp r E fun a s => Ws (k a s) E R B C N) : Ws (r.bind k) E R B C N := by
  match r, h.run with
  | .ok _ _, h => exact h
  | .ex _ _, h => exact ⟨h⟩
theorem ws_bindS {r : Rs Fl} {k : Fl → Sta → Rs Fl} (h : Ws r E (fun h s => Ws (k (.rt h) s) E R B C N) (fun s => Ws (k .bk s) E R B C N) (fun s => Ws (k .ct s) E R B C N) fun s => Ws (k .nx s) E R B C N) : Ws (r.bind k) E R B C N := by
  match r, h.run with
  | .ok .nx _, h => exact h
  | .ok .bk _, h => exact h
  | .ok .ct _, h => exact h
  | .ok (.rt _) _, h => exact h
  | .ex _ _, h => exact ⟨h⟩
theorem ws_mono {r : Rs Fl} {E' : Xn → Sta → Prop} {R' : Hd → Sta → Prop} {B' C' N' : Sta → Prop} (h : Ws r E R B C N) (hE : ∀ e s, E e s → E' e s) (hR : ∀ e s, R e s → R' e s) (hB : ∀ s, B s → B' s) (hC : ∀ s, C s → C' s) (hN : ∀ s, N s → N' s) : Ws r E' R' B' C' N' := by
  match r, h.run with
  | .ok .nx _, h => exact ⟨hN _ h⟩
  | .ok .bk _, h => exact ⟨hB _ h⟩
  | .ok .ct _, h => exact ⟨hC _ h⟩
  | .ok (.rt _) _, h => exact ⟨hR _ _ h⟩
  | .ex _ _, h => exact ⟨hE _ _ h⟩
/-! statements -/
theorem ws_seq (h : Ws (f s) E R B C fun s1 => Ws (g s1) E R B C N) : Ws (fSeq f g s) E R B C N := by
  rw [ap_seq]
  exact ws_bindS (ws_mono h (fun _ _ z => z) (fun _ _ z => ⟨z⟩) (fun _ z => ⟨z⟩) (fun _ z => ⟨z⟩) fun _ z => z)
theorem ws_next (h : N s) : Ws (fNext s) E R B C N := ⟨h⟩
theorem ws_bk (h : B s) : Ws (fBk s) E R B C N := ⟨h⟩
theorem ws_ct (h : C s) : Ws (fCt s) E R B C N := ⟨h⟩
theorem ws_ret (h : Wp (fe s) E R) : Ws (fRet fe s) E R B C N := ws_bind (wp_mono h (fun _ _ z => z) fun _ _ z => ⟨z⟩)
theorem ws_retN (h : R (vf .none) s) : Ws (fRetN s) E R B C N := ⟨h⟩
theorem ws_drop (h : Wp (fe s) E fun _ s1 => N s1) : Ws (fDrop fe s) E R B C N := ws_bind (wp_mono h (fun _ _ z => z) fun _ _ z => ⟨z⟩)
theorem ws_rz {x : Str} (h : E ⟨x, none⟩ s) : Ws (fRz0 x s) E R B C N := ⟨h⟩
theorem ws_if (h : Wp (ft s) E fun b s1 => (b = true → Ws (f s1) E R B C N) ∧ (b = false → Ws (g s1) E R B C N)) : Ws (fIfS ft f g s) E R B C N := by
  rw [ap_if]
  refine ws_bind (wp_mono h (fun _ _ z => z) fun b s1 z => ?_)
  cases b with
  | true => exact z.1 rfl
  | false => exact z.2 rfl
theorem ws_asg (h : Wp (fe s) E fun h s1 => Wg (fg s1 h) N) : Ws (fAsg fe fg s) E R B C N := by
  rw [ap_asg]
  refine ws_bind (wp_mono h (fun _ _ z => z) fun hd s1 z => ?_)
  unfold nxO
  match fg s1 hd, z with
  | some s2, z => exact ⟨z⟩
/-! targets -/
theorem putSl_j (hj : jkAt sl i = true) (e : sl.set i (some ⟨w.d, w.s, false⟩) = sl') : putSl ⟨sl, ob⟩ i w = some ⟨sl', ob⟩ := by
  unfold jkAt at hj
  unfold putSl
  dsimp only
  match h : sl[i]?, hj with
  | some none, hj =>
    dsimp only
    rw [← e]
    rfl
  | some (some w0), hj =>
    have : w0.l = false := by simpa [jk] using hj
    dsimp only
    rw [this, if_neg (by decide), ← e]
    rfl
theorem wg_val {N : Sta → Prop} (hj : jkAt sl i = true) (e : sl.set i (some ⟨d, t, false⟩) = sl') (h : N ⟨sl', ob⟩) : Wg (asg ⟨sl, ob⟩ i (.val ⟨d, t, l⟩)) N := by
  show Wg (putSl _ _ _) _
  rw [putSl_j (w := ⟨d, t, l⟩) hj e]
  exact h
/-- a list of one's own goes to another slot, for good -/
theorem wg_slot {N : Sta → Prop} {sl1 : List (Option Vl)} (e1 : sl[j]? = some (some ⟨d, t, false⟩)) (c : t.cp = false) (ok : t.fzOk = true) (e2 : sl.set j (some (.f d)) = sl1) (hj : jkAt sl1 i = true) (e : sl1.set i (some (.f d)) = sl') (h : N ⟨sl', ob⟩) : Wg (asg ⟨sl, ob⟩ i (.slot j)) N := by
  unfold asg takeFz
  dsimp only
  rw [e1]
  dsimp only
  have : t ≠ .fz := by
    rintro rfl
    cases c
  rw [if_neg this, if_pos ⟨ok, rfl⟩]
  dsimp only
  unfold Sta.set
  dsimp only
  rw [e2, putSl_j (w := .f d) hj e]
  exact h
theorem wg_tup {N : Sta → Prop} (e : lookH s hd = some ⟨.tuple ds, t, l⟩) (hl : ds.length = n) (h : Wg (fgs s ds) N) : Wg (fgTup n fgs s hd) N := by
  unfold fgTup
  rw [e]
  dsimp only
  rw [if_pos hl]
  exact h
theorem wg_cons {N : Sta → Prop} (h : Wg (fg s (vf d)) fun s1 => Wg (fgs s1 ds) N) : Wg (fgCons fg fgs s (d :: ds)) N := by
  unfold fgCons
  dsimp only
  match fg s (vf d), h with
  | some s1, h => exact h
theorem wg_nil {N : Sta → Prop} (h : N s) : Wg (fgNil s []) N := h
theorem wg_some {N : α → Prop} {o : Option α} {a : α} (e : o = some a) (h : N a) : Wg o N := by
  rw [e]
  exact h
/-! names, values -/
theorem wp_c (h : P (vf d) s) : Wp (fC d s) E P := ⟨h⟩
theorem wp_nv (e : sl[i]? = some (some ⟨d, t, l⟩)) (c : t.cp = true) (h : P (.val ⟨d, t, false⟩) ⟨sl, ob⟩) : Wp (fN i ⟨sl, ob⟩) E P := by
  rw [ap_n]
  dsimp only
  rw [e]
  dsimp only
  rw [if_pos c]
  exact ⟨h⟩
theorem wp_ns (e : sl[i]? = some (some ⟨d, t, l⟩)) (c : t.cp = false) (h : P (.slot i) ⟨sl, ob⟩) : Wp (fN i ⟨sl, ob⟩) E P := by
  rw [ap_n]
  dsimp only
  rw [e]
  dsimp only
  rw [c, if_neg (by decide)]
  exact ⟨h⟩
theorem wp_nx (e : sl[i]? = some (some ⟨d, t, l⟩)) (c : t.cp = true) (h : P (.val ⟨d, t, false⟩) ⟨sl, ob⟩) : Wp (fNv i ⟨sl, ob⟩) E P := by
  rw [ap_nv]
  dsimp only
  rw [e]
  dsimp only
  rw [if_pos c]
  exact ⟨h⟩
theorem wp_op (h : Wp (fa s) E fun h1 s1 => Wp (fb s1) E fun h2 s2 => Wp (look2 s2 h1 h2 gg) E P) : Wp (fOp gg fa fb s) E P := wp_bind (wp_mono h (fun _ _ z => z) fun _ _ z => wp_bind z)
theorem wp_l2 (e1 : lookH s h1 = some w1) (e2 : lookH s h2 = some w2) (e : gg w1 w2 = some w) (h : P (.val w) s) : Wp (look2 s h1 h2 gg) E P := by
  unfold look2
  rw [e1, e2]
  dsimp only
  rw [e]
  exact ⟨h⟩
theorem lk_f {t : Sh} (ht : t.tpl = false) : lookH s (.val ⟨d, t, l⟩) = some ⟨d, t, l⟩ := lk_val ht
theorem lk_s (e : sl[i]? = some (some ⟨d, t, l⟩)) (ht : t.tpl = false) : lookH ⟨sl, ob⟩ (.slot i) = some ⟨d, t, l⟩ := by
  unfold lookH
  dsimp only
  rw [e]
  dsimp only
  rw [ht, if_neg (by decide)]
theorem wp_nil (h : PA [] s) : Wp (fNil s) E PA := ⟨h⟩
theorem wp_cons (h : Wp (fa s) E fun h s1 => Wp (fr s1) E fun hs s2 => PA (h :: hs) s2) : Wp (fCons fa fr s) E PA := wp_bind (wp_mono h (fun _ _ z => z) fun _ _ z => wp_bind (wp_mono z (fun _ _ z => z) fun _ _ z => ⟨z⟩))
/-- what is taken for good -/
abbrev Wk (s : Sta) (hs : List Hd) (Q : List PyData → Sta → Prop) : Prop := Wg (takeAll s hs) fun p => Q p.1 p.2
theorem wk_nil {Q : List PyData → Sta → Prop} (h : Q [] s) : Wk s [] Q := h
theorem takeAll_step {p : PyData × Sta} (e : takeFz s hd = some p) {Q : List PyData → Sta → Prop} (h : Wk p.2 hs fun ds s2 => Q (p.1 :: ds) s2) : Wk s (hd :: hs) Q := by
  unfold Wk takeAll
  rw [e]
  dsimp only
  unfold Wk at h
  match takeAll p.2 hs, h with
  | some (ds, s2), h => exact h
theorem wk_val {Q : List PyData → Sta → Prop} (ok : t.fzOk = true) (h : Wk s hs fun ds s2 => Q (d :: ds) s2) : Wk s (.val ⟨d, t, l⟩ :: hs) Q := by
  refine takeAll_step (p := (d, s)) ?_ h
  show (if t.fzOk = true then _ else _) = _
  rw [if_pos ok]
theorem wk_slot {Q : List PyData → Sta → Prop} (e : sl[i]? = some (some ⟨d, t, false⟩)) (c : t.cp = false) (ok : t.fzOk = true) (e2 : sl.set i (some (.f d)) = sl') (h : Wk ⟨sl', ob⟩ hs fun ds s2 => Q (d :: ds) s2) : Wk ⟨sl, ob⟩ (.slot i :: hs) Q := by
  refine takeAll_step (p := (d, ⟨sl', ob⟩)) ?_ h
  unfold takeFz
  dsimp only
  rw [e]
  dsimp only
  have : t ≠ .fz := by
    rintro rfl
    cases c
  rw [if_neg this, if_pos ⟨ok, rfl⟩, ← e2]
  rfl
theorem wp_tup (h : Wp (fr s) E fun hs s1 => Wk s1 hs fun ds s2 => ds.length ≤ 100000 ∧ P (.val (.f (.tuple ds))) s2) : Wp (fTup fr s) E P := by
  rw [ap_tup]
  refine wp_bind (wp_mono h (fun _ _ z => z) fun hs s1 z => ?_)
  obtain ⟨⟨ds, s2⟩, e, z⟩ := wg_ex z
  rw [e]
  dsimp only
  rw [if_pos z.1]
  exact ⟨z.2⟩
theorem wp_lst (h : Wp (fr s) E fun hs s1 => Wk s1 hs fun ds s2 => ds.length ≤ 100000 ∧ P (.val ⟨.list ds, .ls .fz, false⟩) s2) : Wp (fLst fr s) E P := by
  rw [ap_lst]
  refine wp_bind (wp_mono h (fun _ _ z => z) fun hs s1 z => ?_)
  obtain ⟨⟨ds, s2⟩, e, z⟩ := wg_ex z
  rw [e]
  dsimp only
  rw [if_pos z.1]
  exact ⟨z.2⟩
theorem wp_b (h : Wp (fr s) E fun hs s1 => Wg ((argsOf s1 hs).bind gl) fun w => P (.val w) s1) : Wp (fB gl fr s) E P := by
  rw [ap_b]
  refine wp_bind (wp_mono h (fun _ _ z => z) fun hs s1 z => ?_)
  match argsOf s1 hs, z with
  | some ws, z =>
    dsimp only [Option.bind] at z ⊢
    match gl ws, z with
    | some w, z => exact ⟨z⟩
theorem wb_mk {N : Vl → Prop} (e1 : argsOf s hs = some args) (e : gl args = some w) (h : N w) : Wg ((argsOf s hs).bind gl) N := by
  rw [e1]
  show Wg (gl args) N
  rw [e]
  exact h
theorem args_nil : argsOf s [] = some [] := rfl
theorem args_cons (e1 : lookH s hd = some w) (e2 : argsOf s hs = some args) : argsOf s (hd :: hs) = some (w :: args) := by
  unfold argsOf
  rw [e1, e2]
/-! truth -/
theorem wp_tv (h : Wp (fa s) E fun h s1 => Wg (boolOf s1 h) fun b => PT b s1) : Wp (fTv fa s) E PT := by
  rw [ap_tv]
  refine wp_bind (wp_mono h (fun _ _ z => z) fun hd s1 z => ?_)
  unfold onB
  match boolOf s1 hd, z with
  | some b, z => exact ⟨z⟩
theorem wp_tt (h : Wp (fa s) E fun h s1 => Wg (truOf s1 h) fun b => PT b s1) : Wp (fTt fa s) E PT := by
  rw [ap_tt]
  refine wp_bind (wp_mono h (fun _ _ z => z) fun hd s1 z => ?_)
  unfold onT
  match truOf s1 hd, z with
  | some b, z => exact ⟨z⟩
theorem wb_bool {N : Bool → Prop} {b : Bool} (h : N b) : Wg (boolOf s (.val ⟨.bool b, .fz, l⟩)) N := h
theorem wp_tand (h : Wp (ft s) E fun b s1 => (b = true → Wp (fu s1) E PT) ∧ (b = false → PT false s1)) : Wp (fTand ft fu s) E PT := by
  rw [ap_tand]
  refine wp_bind (wp_mono h (fun _ _ z => z) fun b s1 z => ?_)
  cases b with
  | true => exact z.1 rfl
  | false => exact ⟨z.2 rfl⟩
theorem wp_tor (h : Wp (ft s) E fun b s1 => (b = true → PT true s1) ∧ (b = false → Wp (fu s1) E PT)) : Wp (fTor ft fu s) E PT := by
  rw [ap_tor]
  refine wp_bind (wp_mono h (fun _ _ z => z) fun b s1 z => ?_)
  cases b with
  | true => exact ⟨z.1 rfl⟩
  | false => exact z.2 rfl
theorem wp_tnot (h : Wp (ft s) E fun b s1 => PT (!b) s1) : Wp (fTnot ft s) E PT := wp_bind (wp_mono h (fun _ _ z => z) fun _ _ z => ⟨z⟩)
theorem wp_ifx (h : Wp (ft s) E fun b s1 => (b = true → Wp (fa s1) E P) ∧ (b = false → Wp (fb s1) E P)) : Wp (fIf ft fa fb s) E P := by
  rw [ap_ifx]
  refine wp_bind (wp_mono h (fun _ _ z => z) fun b s1 z => ?_)
  cases b with
  | true => exact z.1 rfl
  | false => exact z.2 rfl
theorem wp_and (h : Wp (fa s) E fun h s1 => Wg (boolOf s1 h) fun b => (b = true → Wp (fb s1) E P) ∧ (b = false → P (.val (.f (.bool false))) s1)) : Wp (fAnd fa fb s) E P := by
  rw [ap_and]
  refine wp_bind (wp_mono h (fun _ _ z => z) fun hd s1 z => ?_)
  unfold onB
  match boolOf s1 hd, z with
  | some true, z => exact z.1 rfl
  | some false, z => exact ⟨z.2 rfl⟩
theorem wp_or (h : Wp (fa s) E fun h s1 => Wg (boolOf s1 h) fun b => (b = true → P (.val (.f (.bool true))) s1) ∧ (b = false → Wp (fb s1) E P)) : Wp (fOr fa fb s) E P := by
  rw [ap_or]
  refine wp_bind (wp_mono h (fun _ _ z => z) fun hd s1 z => ?_)
  unfold onB
  match boolOf s1 hd, z with
  | some true, z => exact ⟨z.1 rfl⟩
  | some false, z => exact z.2 rfl
theorem wp_not (h : Wp (fa s) E fun h s1 => Wg (boolOf s1 h) fun b => P (.val (.f (.bool (!b)))) s1) : Wp (fNot fa s) E P := by
  rw [ap_not]
  refine wp_bind (wp_mono h (fun _ _ z => z) fun hd s1 z => ?_)
  unfold onB
  match boolOf s1 hd, z with
  | some _, z => exact ⟨z⟩
theorem wp_chain (h : Wp (fa s) E fun h1 s1 => Wp (fb s1) E fun h2 s2 => Wp (look2 s2 h1 h2 gg) E fun h s3 => Wg (boolOf s3 h) fun b => (b = true → Wp (fc s3) E fun h3 s4 => Wp (look2 s4 h2 h3 gg') E P) ∧ (b = false → P (.val (.f (.bool false))) s3)) : Wp (fChain gg gg' fa fb fc s) E P := by
  rw [ap_chain]
  refine wp_bind (wp_mono h (fun _ _ z => z) fun h1 s1 z => wp_bind (wp_mono z (fun _ _ z => z) fun h2 s2 z => wp_bind (wp_mono z (fun _ _ z => z) fun hd s3 z => ?_)))
  unfold onB
  match boolOf s3 hd, z with
  | some true, z => exact wp_bind (z.1 rfl)
  | some false, z => exact ⟨z.2 rfl⟩
theorem wp_neg (h : Wp (fe s) E fun h s1 => ∃ x l t, lookH s1 h = some ⟨.int x, l, t⟩ ∧ P (vf (.int (-x))) s1) : Wp (fNeg fe s) E P := by
  rw [ap_neg]
  refine wp_bind (wp_mono h (fun _ _ z => z) fun hd s1 z => ?_)
  obtain ⟨x, l, t, e, z⟩ := z
  rw [e]
  exact ⟨z⟩
/-! methods -/
def LmR (P : Hd → Sta → Prop) (m : LM) (i : Nat) (es : List PyData) (s2 : Sta) : Prop := Wg (ownAt s2 i) fun w => ∃ xs, w.d = .list xs ∧ w.s = .ls .fz ∧ Wg (m xs es) fun q => P (vf q.1) (s2.set i ⟨.list q.2, .ls .fz, w.l⟩)
theorem wp_lm (own : sl[i]? = some (some ⟨.list ds, .ls .fz, l⟩)) (h : Wp (fr ⟨sl, ob⟩) E fun hs s1 => Wk s1 hs fun es s2 => LmR P m i es s2) : Wp (fLm i m fr ⟨sl, ob⟩) E P := by
  rw [ap_lm]
  have e : ownAt ⟨sl, ob⟩ i = some ⟨.list ds, .ls .fz, l⟩ := by
    unfold ownAt
    dsimp only
    rw [own]
    rfl
  rw [e]
  dsimp only
  refine wp_bind (wp_mono h (fun _ _ z => z) fun hs s1 z => ?_)
  obtain ⟨⟨es, s2⟩, e, z⟩ := wg_ex z
  rw [e]
  dsimp only at z ⊢
  unfold LmR at z
  obtain ⟨⟨d, t, l⟩, e3, xs, e1, e2, z⟩ := wg_ex z
  dsimp only at e1 e2
  subst e1 e2
  rw [e3]
  dsimp only
  obtain ⟨⟨d, ds'⟩, e4, z⟩ := wg_ex z
  rw [e4]
  exact ⟨z⟩
theorem wo_mk {N : Vl → Prop} (e : sl[i]? = some (some w)) (c : w.s.cp = false) (h : N w) : Wg (ownAt ⟨sl, ob⟩ i) N := by
  unfold ownAt
  dsimp only
  rw [e]
  dsimp only
  rw [c, if_neg (by decide)]
  exact h
/-- the step of a list's method, at once -/
theorem wl_mk {ds' : List PyData} (e : sl[i]? = some (some ⟨.list ds, .ls .fz, l⟩)) (hm : m ds es = some (d, ds')) (e2 : sl.set i (some ⟨.list ds', .ls .fz, l⟩) = sl') (h : P (vf d) ⟨sl', ob⟩) : LmR P m i es ⟨sl, ob⟩ := by
  refine wo_mk e rfl ⟨ds, rfl, rfl, ?_⟩
  rw [hm]
  subst e2
  exact h
theorem wp_mv {T : String} (h : Wp (fe s) E fun h s1 => ∃ w1, lookH s1 h = some w1 ∧ kindT T w1 = true ∧ Wp (fr s1) E fun hs s2 => ∃ w, lookH s2 h = some w ∧ Wg ((argsOf s2 hs).bind (gv w)) fun w' => P (.val w') s2) : Wp (fMv T gv fe fr s) E P := by
  rw [ap_mv]
  refine wp_bind (wp_mono h (fun _ _ z => z) fun hd s1 z => ?_)
  obtain ⟨w1, e1, k1, z⟩ := z
  rw [e1]
  dsimp only
  rw [if_pos k1]
  refine wp_bind (wp_mono z (fun _ _ z => z) fun hs s2 z => ?_)
  obtain ⟨w, e2, z⟩ := z
  rw [e2]
  match argsOf s2 hs, z with
  | some ws, z =>
    dsimp only [Option.bind] at z ⊢
    match gv w ws, z with
    | some w', z => exact ⟨z⟩
/-! slices -/
theorem wo_none (h : PO none s) : Wp (fNoP s) E PO := ⟨h⟩
theorem wo_part (h : Wp (fe s) E fun h s1 => ∃ x t l, lookH s1 h = some ⟨.int x, t, l⟩ ∧ PO (some x) s1) : Wp (fPart fe s) E PO := by
  refine wp_bind (wp_mono h (fun _ _ z => z) fun hd s1 z => ?_)
  obtain ⟨x, t, l, e, z⟩ := z
  rw [e]
  exact ⟨z⟩
theorem wp_slice (h : Wp (fe s) E fun h s1 => Wp (fl s1) E fun lo s2 => Wp (fh s2) E fun hi s3 => ∃ w1 w, lookH s3 h = some w1 ∧ gSlice w1 lo hi = some w ∧ P (.val w) s3) : Wp (fSlice fe fl fh s) E P := by
  rw [ap_slice]
  refine wp_bind (wp_mono h (fun _ _ z => z) fun h1 s1 z => wp_bind (wp_mono z (fun _ _ z => z) fun h2 s2 z => wp_bind (wp_mono z (fun _ _ z => z) fun hd s3 z => ?_)))
  obtain ⟨w1, w, e1, e2, z⟩ := z
  rw [e1]
  dsimp only
  rw [e2]
  exact ⟨z⟩
/-! calls -/
theorem wp_call (h : Wp (fr s) E fun hs s1 => hs.length = n ∧ Wp (callD F s1 hs) E P) : Wp (fCallN n F fr s) E P := by
  rw [ap_call]
  refine wp_bind (wp_mono h (fun _ _ z => z) fun hs s1 z => ?_)
  rw [if_pos z.1]
  exact z.2
theorem wp_callD (ha : argsOf s hs = some args) (hn : nd (lentS s hs) = true) (sp : Spc F args s.ob ED PD) (hE : ∀ e as ob, ED e as ob → E e ⟨(backS s hs as).sl, ob⟩) (hP : ∀ w as ob, PD w as ob → P (.val w) ⟨(backS s hs as).sl, ob⟩) : Wp (callD F s hs) E P := by
  unfold callD
  rw [ha]
  dsimp only
  rw [if_pos (nd_ok hn)]
  match F args s.ob, sp.run with
  | .ok w as ob, sp => exact ⟨hP _ _ _ sp⟩
  | .ex e as ob, sp => exact ⟨hE _ _ _ sp⟩
theorem wd_def (e : stIn args n ob = s) (h : Ws (body s) (fun e s => ED e (stOut args s.sl) s.ob) (fun h s => ∃ w, retV s h = some w ∧ PD w (stOut args s.sl) s.ob) (fun _ => False) (fun _ => False) (fun s => PD (.f .none) (stOut args s.sl) s.ob)) : Wdr (fDef n body args ob) ED PD := by
  rw [ap_def, e]
  match body s, h.run with
  | .ok .nx _, h => exact h
  | .ok (.rt _) _, h =>
    obtain ⟨w, e, h⟩ := h
    dsimp only
    rw [e]
    exact h
  | .ex _ _, h => exact h
theorem spc (hF : F = fDef n body) (e : stIn args n ob = s) (h : Ws (body s) (fun e s => ED e (stOut args s.sl) s.ob) (fun h s => ∃ w, retV s h = some w ∧ PD w (stOut args s.sl) s.ob) (fun _ => False) (fun _ => False) (fun s => PD (.f .none) (stOut args s.sl) s.ob)) : Spc F args ob ED PD := by
  subst hF
  exact ⟨wd_def e h⟩
theorem wd_mono {r : Dr} {ED' : Xn → List (Option Vl) → List Ob1 → Prop} {PD' : Vl → List (Option Vl) → List Ob1 → Prop} (h : Wdr r ED PD) (hE : ∀ e a o, ED e a o → ED' e a o) (hP : ∀ w a o, PD w a o → PD' w a o) : Wdr r ED' PD' := by
  match r, h with
  | .ok _ _ _, h => exact hP _ _ _ h
  | .ex _ _ _, h => exact hE _ _ _ h
/-! loops -/
theorem ws_loop (I : Nat → Sta → Prop) (ds : List PyData) (st : ∀ k s d, ds[k]? = some d → I k s → Wg (fg s (vf d)) fun s1 => Ws (f s1) E R N (I (k + 1)) (I (k + 1))) : ∀ n s, I n s → (∀ s, I (max n ds.length) s → N s) → Ws (loopF fg f (ds.drop n) s) E R B C N := by
  intro n
  induction h : ds.length - n generalizing n with
  | zero =>
    intro s i hN
    rw [List.drop_eq_nil_of_le (by omega)]
    exact ⟨hN s (by rw [Nat.max_eq_left (by omega)]; exact i)⟩
  | succ m ih =>
    intro s i hN
    have lt : n < ds.length := by omega
    rw [List.drop_eq_getElem_cons lt]
    unfold loopF
    have := st n s ds[n] (List.getElem?_eq_getElem lt) i
    match fg s (vf ds[n]), this with
    | some s1, z =>
      dsimp only
      refine ws_bindS (ws_mono z (fun _ _ z => z) (fun _ _ z => ⟨z⟩) (fun _ z => ⟨z⟩) (fun s2 z => ?_) fun s2 z => ?_)
      all_goals exact ih (n + 1) (by omega) s2 z fun s i => hN s (by rw [Nat.max_eq_right (by omega)] at i ⊢; exact i)
theorem ws_for (I : Nat → Sta → Prop) (h : Wp (fi s) E fun ds s1 => I 0 s1 ∧ (∀ k s d, ds[k]? = some d → I k s → Wg (fg s (vf d)) fun s1 => Ws (f s1) E R N (I (k + 1)) (I (k + 1))) ∧ ∀ s, I ds.length s → N s) : Ws (fFor fi fg f s) E R B C N := by
  rw [ap_for]
  refine ws_bind (wp_mono h (fun _ _ z => z) fun ds s1 z => ?_)
  have := ws_loop (B := B) (C := C) I ds z.2.1 0 s1 z.1 (by rw [Nat.zero_max]; exact z.2.2)
  rwa [List.drop_zero] at this
end
end Z
/-! # the walk's leaves: what operators give, comprehensions -/
namespace Z
open PySem PySem.Spec PyProof.Rows L2 GxR
section
variable {t u : Sh} {l l' : Bool} {i j : Int} {ds es : List PyData} {d e : PyData} {k : Nat}
theorem g_mod (h : 0 < j) : gInt bMod (fun i j => i % j) ⟨.int i, t, l⟩ ⟨.int j, u, l'⟩ = some (.f (.int (i % j))) := by
  show (if bMod i j = true then _ else _) = _
  rw [if_pos (show bMod i j = true from decide_eq_true h)]
theorem g_div (h : 0 < j) (h2 : j < 1073741824) : gInt bDiv (fun i j => i / j) ⟨.int i, t, l⟩ ⟨.int j, u, l'⟩ = some (.f (.int (i / j))) := by
  show (if bDiv i j = true then _ else _) = _
  rw [if_pos (show bDiv i j = true by simp [bDiv, h, h2])]
theorem g_mulR (h : -(2 ^ 64) < j) (h2 : j < 2 ^ 64) : gMul ⟨.int i, t, l⟩ ⟨.int j, u, l'⟩ = some (.f (.int (i * j))) := by
  show (if bMul i j = true then _ else _) = _
  rw [if_pos (by simp only [bMul, Bool.or_eq_true, Bool.and_eq_true, decide_eq_true_eq]; exact Or.inr ⟨h, h2⟩)]
theorem g_mulL (h : -(2 ^ 64) < i) (h2 : i < 2 ^ 64) : gMul ⟨.int i, t, l⟩ ⟨.int j, u, l'⟩ = some (.f (.int (i * j))) := by
  show (if bMul i j = true then _ else _) = _
  rw [if_pos (by simp only [bMul, Bool.or_eq_true, Bool.and_eq_true, decide_eq_true_eq]; exact Or.inl ⟨h, h2⟩)]
theorem g_ixL (ht : rdItems t = true) (h : atI ds i = some d) : gSub2 ⟨.list ds, t, l⟩ ⟨.int i, u, l'⟩ = some (.f d) := by
  show (if rdItems t = true then (atI ds i).map Vl.f else none) = _
  rw [if_pos ht, h]
  rfl
theorem g_ixT (h : atI ds i = some d) : gSub2 ⟨.tuple ds, t, l⟩ ⟨.int i, u, l'⟩ = some (.f d) := by
  show (atI ds i).map Vl.f = _
  rw [h]
  rfl
theorem g_addL (h1 : fzItems t = true) (h2 : fzItems u = true) (h : ds.length + es.length ≤ sizeLine) : gAdd ⟨.list ds, t, l⟩ ⟨.list es, u, l'⟩ = some ⟨.list (ds ++ es), .ls .fz, false⟩ := by
  show (if _ then _ else _) = _
  rw [if_pos ⟨h1, h2, h⟩]
theorem g_addT (h : ds.length + es.length ≤ sizeLine) : gAdd ⟨.tuple ds, t, l⟩ ⟨.tuple es, u, l'⟩ = some (.f (.tuple (ds ++ es))) := by
  show (if _ then _ else _) = _
  rw [if_pos h]
theorem g_inL {a : Vl} (ht : rdItems t = true) (ha : flatD a.d = true) (h : ds.all flatD = true) : gIn2 a ⟨.list ds, t, l⟩ = some (.f (.bool (inV (valD a.d) (ds.map valD)))) := by
  show Option.map _ (if _ then _ else _) = _
  rw [if_pos ⟨ht, ha, h⟩]
  rfl
theorem g_ninL {a : Vl} (ht : rdItems t = true) (ha : flatD a.d = true) (h : ds.all flatD = true) : gNin2 a ⟨.list ds, t, l⟩ = some (.f (.bool (!inV (valD a.d) (ds.map valD)))) := by
  show Option.map _ (if _ then _ else _) = _
  rw [if_pos ⟨ht, ha, h⟩]
  rfl
theorem g_inD {a : Vl} {kvs : List (PyData × PyData)} {q : Key} (hk : keyOf a.d = some q) : gIn2 a ⟨.dict kvs, .mp .fz, l⟩ = some (.f (.bool (dGet kvs q).isSome)) := by
  show gDIn false a _ = _
  unfold gDIn
  dsimp only
  rw [hk]
  rfl
theorem g_ninD {a : Vl} {kvs : List (PyData × PyData)} {q : Key} (hk : keyOf a.d = some q) : gNin2 a ⟨.dict kvs, .mp .fz, l⟩ = some (.f (.bool (!(dGet kvs q).isSome))) := by
  show gDIn true a _ = _
  unfold gDIn
  dsimp only
  rw [hk]
  rfl
theorem g_ixD {a : Vl} {kvs : List (PyData × PyData)} {q : Key} (hk : keyOf a.d = some q) (h : dGet kvs q = some d) : gSub2 ⟨.dict kvs, .mp .fz, l⟩ a = some (.f d) := by
  show gDIx _ a = _
  unfold gDIx
  dsimp only
  rw [hk]
  dsimp only
  rw [if_pos rfl, h]
  rfl
theorem g_eqF {b : Bool} (h1 : t.fzOk = true) (h2 : u.fzOk = true) (h : eqData d e = some b) : gEq ⟨d, t, l⟩ ⟨e, u, l'⟩ = some (.f (.bool b)) := by
  show (if _ then _ else _) = _
  rw [if_pos ⟨h1, h2⟩, h]
  rfl
theorem g_neF {b : Bool} (h1 : t.fzOk = true) (h2 : u.fzOk = true) (h : eqData d e = some b) : gNe ⟨d, t, l⟩ ⟨e, u, l'⟩ = some (.f (.bool (!b))) := by
  show (if _ then _ else _) = _
  rw [if_pos ⟨h1, h2⟩, h]
  rfl
theorem gv_add : gAdd ⟨.int i, t, l⟩ ⟨.int j, u, l'⟩ = some (.f (.int (i + j))) := rfl
theorem gv_sub : gMinus ⟨.int i, t, l⟩ ⟨.int j, u, l'⟩ = some (.f (.int (i - j))) := rfl
theorem gv_lt : gLt ⟨.int i, t, l⟩ ⟨.int j, u, l'⟩ = some (.f (.bool (decide (i < j)))) := rfl
theorem gv_gt : gGt ⟨.int i, t, l⟩ ⟨.int j, u, l'⟩ = some (.f (.bool (decide (j < i)))) := rfl
theorem gv_le : gLe ⟨.int i, t, l⟩ ⟨.int j, u, l'⟩ = some (.f (.bool (decide (i ≤ j)))) := rfl
theorem gv_ge : gGe ⟨.int i, t, l⟩ ⟨.int j, u, l'⟩ = some (.f (.bool (decide (j ≤ i)))) := rfl
theorem gv_eq : gEq ⟨.int i, .fz, l⟩ ⟨.int j, .fz, l'⟩ = some (.f (.bool (decide (i = j)))) := rfl
theorem gv_ne : gNe ⟨.int i, .fz, l⟩ ⟨.int j, .fz, l'⟩ = some (.f (.bool (!decide (i = j)))) := rfl
theorem gv_eqS {x y : Str} : gEq ⟨.str x, .fz, l⟩ ⟨.str y, .fz, l'⟩ = some (.f (.bool (decide (x = y)))) := rfl
theorem gv_mod (h : 0 < j) : gInt bMod (fun i j => i % j) ⟨.int i, t, l⟩ ⟨.int j, u, l'⟩ = some (.f (.int (i % j))) := g_mod h
end
section
variable {s s1 s2 : Sta} {P : Hd → Sta → Prop} {E : Xn → Sta → Prop} {fa fb fc fe fk fv : FE} {ft : FT} {fr : FA} {i j n k c : Nat} {fi : Sta → Rs (List PyData)} {fg : Sta → Hd → Option Sta} {vs : List Nat} {d : PyData} {ds es : List PyData} {ob : List Ob1} {sl sl' : List (Option Vl)} {w : Vl} {t : Sh} {l : Bool} {PI : List PyData → Sta → Prop}
/-! what is walked -/
theorem wi_walk (h : Wp (fe s) E fun h s1 => Wg (takeFz s1 h) fun p => ∃ ds, itemsD p.1 = some ds ∧ PI ds p.2) : Wp (fWalk fe s) E PI := by
  rw [ap_walk]
  refine wp_bind (wp_mono h (fun _ _ z => z) fun hd s1 z => ?_)
  obtain ⟨⟨d, s2⟩, e, ds, e2, z⟩ := wg_ex z
  rw [e]
  match d, e2 with
  | .list ds', e2 =>
    cases e2
    exact ⟨z⟩
  | .tuple ds', e2 =>
    cases e2
    exact ⟨z⟩
theorem wi_rng1 (h : Wp (fr s) E fun hs s1 => ∃ x t l, argsOf s1 hs = some [⟨.int x, t, l⟩] ∧ okRg x = true ∧ PI (intsR 0 x.toNat) s1) : Wp (fRng1 fr s) E PI := by
  rw [ap_rng1]
  refine wp_bind (wp_mono h (fun _ _ z => z) fun hs s1 z => ?_)
  obtain ⟨x, t, l, e, ok, z⟩ := z
  rw [e]
  dsimp only
  rw [if_pos ok]
  exact ⟨z⟩
theorem wi_rng2 (h : Wp (fr s) E fun hs s1 => ∃ x y t l t' l', argsOf s1 hs = some [⟨.int x, t, l⟩, ⟨.int y, t', l'⟩] ∧ okRg x = true ∧ okRg y = true ∧ PI (intsR x (y - x).toNat) s1) : Wp (fRng2 fr s) E PI := by
  rw [ap_rng2]
  refine wp_bind (wp_mono h (fun _ _ z => z) fun hs s1 z => ?_)
  obtain ⟨x, y, t, l, t', l', e, ok, ok', z⟩ := z
  rw [e]
  dsimp only
  rw [if_pos ⟨ok, ok'⟩]
  exact ⟨z⟩
theorem wi_rng3 (h : Wp (fr s) E fun hs s1 => ∃ x y z t l t' l' t2 l2, argsOf s1 hs = some [⟨.int x, t, l⟩, ⟨.int y, t', l'⟩, ⟨.int z, t2, l2⟩] ∧ (okRg x = true ∧ okRg y = true ∧ z = -1) ∧ PI (downR x (x - y).toNat) s1) : Wp (fRng3 fr s) E PI := by
  rw [ap_rng3]
  refine wp_bind (wp_mono h (fun _ _ z => z) fun hs s1 z => ?_)
  obtain ⟨x, y, z, t, l, t', l', t2, l2, e, ok, z⟩ := z
  rw [e]
  dsimp only
  rw [if_pos ok]
  exact ⟨z⟩
theorem wi_rev1 (h : Wp (fe s) E fun h s1 => ∃ x t l, lookH s1 h = some ⟨.int x, t, l⟩ ∧ okRg x = true ∧ PI (downR ((x.toNat : Nat) - 1) x.toNat) s1) : Wp (fRev1 fe s) E PI := by
  rw [ap_rev1]
  refine wp_bind (wp_mono h (fun _ _ z => z) fun hd s1 z => ?_)
  obtain ⟨x, t, l, e, ok, z⟩ := z
  rw [e]
  dsimp only
  rw [if_pos ok]
  exact ⟨z⟩
theorem wi_enum (h : Wp (fr s) E fun hs s1 => Wk s1 hs fun es s2 => ∃ d ds, es = [d] ∧ itemsD d = some ds ∧ PI (enumF 0 ds) s2) : Wp (fEnum fr s) E PI := by
  rw [ap_enum]
  refine wp_bind (wp_mono h (fun _ _ z => z) fun hs s1 z => ?_)
  obtain ⟨⟨es, s2⟩, e, d, ds, rfl, e2, z⟩ := wg_ex z
  dsimp only at e z
  rw [e]
  dsimp only
  rw [e2]
  exact ⟨z⟩
theorem intsR_at2 {lo : Int} {n k : Nat} {d : PyData} (h : (intsR lo n)[k]? = some d) : d = .int (lo + (k : Int)) ∧ k < n := by
  unfold intsR at h
  rw [List.getElem?_map] at h
  cases e : (List.range n)[k]? with
  | none =>
    rw [e] at h
    cases h
  | some j =>
    rw [e] at h
    cases h
    obtain ⟨lt, e⟩ := List.getElem?_eq_some_iff.mp e
    rw [List.getElem_range] at e
    subst e
    exact ⟨rfl, by simpa using lt⟩
/-! a, b = x, y -/
theorem ws_par {N : Sta → Prop} {R : Hd → Sta → Prop} {B C : Sta → Prop} (h : Wp (fr s) E fun hs s1 => ∃ w1 w2, hs = [.val w1, .val w2] ∧ w1.s.tpl = false ∧ w2.s.tpl = false ∧ Wg (asg s1 i (.val ⟨w1.d, w1.s, false⟩)) fun s4 => Wg (asg s4 j (.val ⟨w2.d, w2.s, false⟩)) N) : Ws (fPar i j fr s) E R B C N := by
  rw [ap_par]
  refine ws_bind (wp_mono h (fun _ _ z => z) fun hs s1 z => ?_)
  obtain ⟨w1, w2, rfl, t1, t2, z⟩ := z
  have e : ∀ (s : Sta) (w : Vl), w.s.tpl = false → toVal s (.val w) = some (⟨w.d, w.s, false⟩, s) := fun s w h => by
    unfold toVal
    dsimp only
    rw [h, if_neg (by decide)]
  dsimp only
  rw [e _ _ t1]
  dsimp only
  rw [e _ _ t2]
  dsimp only
  obtain ⟨s4, e4, z⟩ := wg_ex z
  have e4 : putSl s1 i ⟨w1.d, w1.s, false⟩ = some s4 := e4
  rw [e4]
  dsimp only
  obtain ⟨s5, e5, z⟩ := wg_ex z
  have e5 : putSl s4 j ⟨w2.d, w2.s, false⟩ = some s5 := e5
  rw [e5]
  exact ⟨z⟩
/-! a, b = f(..); return (a, b) -/
theorem ws_asgT2 {N : Sta → Prop} {R : Hd → Sta → Prop} {B C : Sta → Prop} (h : Wp (fe s) E fun h s1 => ∃ d1 d2 sh, h = .val ⟨.tuple [d1, d2], .mt sh, false⟩ ∧ Wg (asg s1 i (.val ⟨d1, sh, false⟩)) fun s4 => Wg (asg s4 j (.val ⟨d2, sh, false⟩)) N) : Ws (fAsgT2 fe i j s) E R B C N := by
  unfold fAsgT2
  refine ws_bind (wp_mono h (fun _ _ z => z) fun hd s1 z => ?_)
  obtain ⟨d1, d2, sh, rfl, z⟩ := z
  dsimp only
  obtain ⟨s4, e4, z⟩ := wg_ex z
  have e4 : putSl s1 i ⟨d1, sh, false⟩ = some s4 := e4
  rw [e4]
  dsimp only
  obtain ⟨s5, e5, z⟩ := wg_ex z
  have e5 : putSl s4 j ⟨d2, sh, false⟩ = some s5 := e5
  rw [e5]
  exact ⟨z⟩
theorem ws_retT2 {N : Sta → Prop} {R : Hd → Sta → Prop} {B C : Sta → Prop} {d1 d2 : PyData} (e1 : sl[i]? = some (some ⟨d1, .ls .fz, false⟩)) (e2 : sl[j]? = some (some ⟨d2, .ls .fz, false⟩)) (e : wipeL sl [i, j] = sl') (h : R (.val ⟨.tuple [d1, d2], .mt (.ls .fz), false⟩) ⟨sl', ob⟩) : Ws (fRetT2 i j ⟨sl, ob⟩) E R B C N := by
  unfold fRetT2
  have o1 : ownAt ⟨sl, ob⟩ i = some ⟨d1, .ls .fz, false⟩ := by
    unfold ownAt
    dsimp only
    rw [e1]
    rfl
  have o2 : ownAt ⟨sl, ob⟩ j = some ⟨d2, .ls .fz, false⟩ := by
    unfold ownAt
    dsimp only
    rw [e2]
    rfl
  rw [o1, o2]
  subst e
  exact ⟨h⟩
/-! a list's item is put -/
theorem own_at {w : Vl} (e : sl[i]? = some (some w)) (c : w.s.cp = false) : ownAt ⟨sl, ob⟩ i = some w := by
  unfold ownAt
  dsimp only
  rw [e]
  dsimp only
  rw [c, if_neg (by decide)]
theorem ws_store {N : Sta → Prop} {R : Hd → Sta → Prop} {B C : Sta → Prop} (own : sl[i]? = some (some ⟨.list ds, .ls .fz, l⟩)) (h : Wp (fe ⟨sl, ob⟩) E fun h s1 => Wg (fgSet i fk s1 h) N) : Ws (fStore i fk fe ⟨sl, ob⟩) E R B C N := by
  rw [ap_store, own_at own rfl]
  exact ws_asg h
theorem wg_set {N : Sta → Prop} {x : Int} {l' : Bool} {j : Nat} (own : sl[i]? = some (some ⟨.list ds, .ls .fz, l⟩)) (hk : Wp (fk ⟨sl, ob⟩) E0 fun hk s1 => s1 = ⟨sl, ob⟩ ∧ ∃ t l, lookH s1 hk = some ⟨.int x, t, l⟩) (ok : t.fzOk = true) (ix : ixN ds.length x = some j) (e : sl.set i (some ⟨.list (ds.set j d), .ls .fz, l⟩) = sl') (h : N ⟨sl', ob⟩) : Wg (fgSet i fk ⟨sl, ob⟩ (.val ⟨d, t, l'⟩)) N := by
  rw [ap_gset, own_at own rfl]
  dsimp only
  match fk ⟨sl, ob⟩, hk.run with
  | .ok hk s1, z =>
    obtain ⟨rfl, t', l2, ez⟩ := z
    dsimp only
    rw [ez]
    have : takeFz ⟨sl, ob⟩ (.val ⟨d, t, l'⟩) = some (d, ⟨sl, ob⟩) := by
      unfold takeFz
      dsimp only
      rw [if_pos ok]
    rw [this]
    dsimp only
    rw [own_at own rfl]
    dsimp only
    rw [ix]
    subst e
    exact h
/-! comprehensions of every item -/
theorem take_one {Q : PyData → Sta → Prop} {h : Hd} (z : Wk s [h] fun ds s2 => ∃ d, ds = [d] ∧ Q d s2) : Wg (takeFz s h) fun p => Q p.1 p.2 := by
  obtain ⟨⟨ds, s2⟩, e, d, e2, z⟩ := wg_ex z
  dsimp only at e2 z
  subst e2
  unfold takeAll at e
  match q : takeFz s h, e with
  | some (d', s1), e =>
    unfold takeAll at e
    cases e
    exact z
theorem lcF_map (f : PyData → PyData) {s0 : Sta} (vs : List Nat) : ∀ (ds acc : List PyData), (∀ d ∈ ds, Wg (fg s0 (vf d)) fun s1 => Wp (fe s1) E0 fun h s2 => Wk s2 [h] fun es s3 => es = [f d] ∧ wipeS s3 vs = s0) → acc.length + ds.length ≤ 100000 → Wp (lcF fg fYes fe vs ds acc s0) E0 fun a s => a = acc ++ ds.map f ∧ s = s0
  | [], acc, _, _ => ⟨⟨by simp, rfl⟩⟩
  | d :: ds, acc, h, hl => by
    unfold lcF
    have z := h d List.mem_cons_self
    obtain ⟨s1, e1, z⟩ := wg_ex z
    rw [e1]
    dsimp only
    refine wp_bnd ⟨?_⟩
    show Wp (if _ then _ else _) _ _
    rw [if_pos rfl]
    refine wp_bnd (wp_mono z (fun _ _ z => z) fun hd s2 z => ?_)
    have z := take_one (Q := fun y s3 => y = f d ∧ wipeS s3 vs = s0) (h := hd) (s := s2) (by
      obtain ⟨p, e, z1, z2⟩ := wg_ex z
      unfold Wk
      rw [e]
      exact ⟨f d, z1, rfl, z2⟩)
    obtain ⟨⟨y, s4⟩, e4, rfl, e5⟩ := wg_ex z
    rw [e4]
    dsimp only at e5 ⊢
    rw [if_pos (by simp at hl; omega), e5]
    refine wp_mono (lcF_map f vs ds (acc ++ [f d]) (fun d hd => h d (List.mem_cons_of_mem _ hd)) (by simp at hl ⊢; omega)) (fun _ _ z => z) fun a s z => ⟨?_, z.2⟩
    rw [z.1]
    simp
theorem wp_lc (f : PyData → PyData) (h : Wp (fi s) E fun ds s1 => ∃ s0, wipeS s1 vs = s0 ∧ ds.length ≤ 100000 ∧ (∀ d ∈ ds, Wg (fg s0 (vf d)) fun s1 => Wp (fe s1) E0 fun h s2 => Wk s2 [h] fun es s3 => es = [f d] ∧ wipeS s3 vs = s0) ∧ P (.val ⟨.list (ds.map f), .ls .fz, false⟩) s0) : Wp (fLc fi fg fYes fe vs s) E P := by
  rw [ap_lc]
  refine wp_bind (wp_mono h (fun _ _ z => z) fun ds s1 z => ?_)
  obtain ⟨s0, e, hl, z1, z2⟩ := z
  rw [e]
  refine wp_bnd (wp_mono (lcF_map f vs ds [] z1 (by simpa using hl)) (fun _ _ z => z) fun a s z => ?_)
  obtain ⟨rfl, rfl⟩ := z
  exact ⟨z2⟩
theorem lcI_map (f : PyData → PyData) (vs : List Nat) (ds : List PyData) {l : Bool} (own : sl[c]? = some (some ⟨.list ds, .ls .fz, l⟩)) (h : ∀ d ∈ ds, Wg (fg ⟨sl, ob⟩ (vf d)) fun s1 => Wp (fe s1) E0 fun h s2 => Wk s2 [h] fun es s3 => es = [f d] ∧ wipeS s3 vs = ⟨sl, ob⟩) (hl : ds.length ≤ 100000) : ∀ (n k : Nat) (acc : List PyData), n + k = ds.length → acc = (ds.take k).map f → Wp (lcI c fg fYes fe vs n k acc ⟨sl, ob⟩) E0 fun a s => a = ds.map f ∧ s = ⟨sl, ob⟩
  | 0, k, acc, e, ea => by
    unfold lcI ownAt
    dsimp only
    rw [own]
    show Wp (if _ then _ else _) _ _
    rw [if_pos (by omega)]
    refine ⟨⟨?_, rfl⟩⟩
    rw [ea, List.take_of_length_le (by omega)]
  | n + 1, k, acc, e, ea => by
    have lt : k < ds.length := by omega
    unfold lcI ownAt
    dsimp only
    rw [own]
    show Wp (match ds[k]? with
      | some d => _
      | none => _) _ _
    rw [List.getElem?_eq_getElem lt]
    dsimp only
    obtain ⟨s1, e1, z⟩ := wg_ex (h ds[k] (List.getElem_mem lt))
    rw [e1]
    dsimp only
    refine wp_bnd ⟨?_⟩
    show Wp (if _ then _ else _) _ _
    rw [if_pos rfl]
    refine wp_bnd (wp_mono z (fun _ _ z => z) fun hd s2 z => ?_)
    have z := take_one (Q := fun y s3 => y = f ds[k] ∧ wipeS s3 vs = ⟨sl, ob⟩) (h := hd) (s := s2) (by
      obtain ⟨p, e, z1, z2⟩ := wg_ex z
      unfold Wk
      rw [e]
      exact ⟨_, z1, rfl, z2⟩)
    obtain ⟨⟨y, s4⟩, e4, rfl, e5⟩ := wg_ex z
    rw [e4]
    dsimp only at e5 ⊢
    have el : acc.length = k := by rw [ea, List.length_map, List.length_take]; omega
    rw [if_pos (by omega), e5]
    refine lcI_map f vs ds own h hl n (k + 1) _ (by omega) ?_
    rw [ea, List.take_succ, List.getElem?_eq_getElem lt, List.map_append]
    rfl
theorem wp_lcN (f : PyData → PyData) (own : sl[c]? = some (some ⟨.list ds, .ls .fz, l⟩)) (e : wipeL sl vs = sl') (own' : sl'[c]? = some (some ⟨.list ds, .ls .fz, l⟩)) (hl : ds.length ≤ 100000) (h : ∀ d ∈ ds, Wg (fg ⟨sl', ob⟩ (vf d)) fun s1 => Wp (fe s1) E0 fun h s2 => Wk s2 [h] fun es s3 => es = [f d] ∧ wipeS s3 vs = ⟨sl', ob⟩) (hP : P (.val ⟨.list (ds.map f), .ls .fz, false⟩) ⟨sl', ob⟩) : Wp (fLcN c fg fYes fe vs ⟨sl, ob⟩) E P := by
  rw [ap_lcN]
  unfold ownAt
  dsimp only
  rw [own]
  dsimp only
  show Wp ((lcI c fg fYes fe vs ds.length 0 [] ⟨wipeL sl vs, ob⟩).bnd _) _ _
  rw [e]
  refine wp_bnd (wp_mono (lcI_map f vs ds own' h hl ds.length 0 [] (by omega) rfl) (fun _ _ z => z) fun a s z => ?_)
  obtain ⟨rfl, rfl⟩ := z
  exact ⟨hP⟩
/-- over what is there for good -/
theorem wp_lcC (f : PyData → PyData) (e0 : sl[c]? = some (some ⟨d, t, l⟩)) (cp : t.cp = true) (ok : t.fzOk = true) (ei : itemsD d = some ds) (e : wipeL sl vs = sl') (hl : ds.length ≤ 100000) (h : ∀ d ∈ ds, Wg (fg ⟨sl', ob⟩ (vf d)) fun s1 => Wp (fe s1) E0 fun h s2 => Wk s2 [h] fun es s3 => es = [f d] ∧ wipeS s3 vs = ⟨sl', ob⟩) (hP : P (.val ⟨.list (ds.map f), .ls .fz, false⟩) ⟨sl', ob⟩) : Wp (fLcN c fg fYes fe vs ⟨sl, ob⟩) E P := by
  rw [ap_lcN]
  unfold ownAt
  dsimp only
  rw [e0]
  dsimp only
  rw [cp, if_pos rfl]
  dsimp only
  refine wp_lc f (wi_walk (wp_nv e0 cp ?_))
  unfold takeFz
  dsimp only
  rw [if_pos ok]
  exact ⟨ds, ei, _, rfl, hl, by rw [← e] at h; exact h, by rw [← e] at hP; exact hP⟩
/-! dicts of every item -/
def dcD (f : PyData → Key × PyData) (ds : List PyData) (acc : List (PyData × PyData)) : List (PyData × PyData) := ds.foldl (fun a d => dPut a (f d).1 (f d).2) acc
theorem dPut_len (kvs : List (PyData × PyData)) (q : Key) (d : PyData) : (dPut kvs q d).length ≤ kvs.length + 1 := by
  unfold dPut
  split
  · simp
  · simp
theorem dcF_map (f : PyData → Key × PyData) {s0 : Sta} (vs : List Nat) : ∀ (ds : List PyData) (acc : List (PyData × PyData)), (∀ d ∈ ds, Wg (fg s0 (vf d)) fun s1 => Wp (fk s1) E0 fun h1 s2 => Wp (fv s2) E0 fun h2 s3 => ∃ w, lookH s3 h1 = some w ∧ keyOf w.d = some (f d).1 ∧ Wk s3 [h2] fun es s4 => es = [(f d).2] ∧ wipeS s4 vs = s0) → acc.length + ds.length ≤ 100000 → Wp (dcF fg fYes fk fv vs ds acc s0) E0 fun a s => a = dcD f ds acc ∧ s = s0
  | [], acc, _, _ => ⟨⟨rfl, rfl⟩⟩
  | d :: ds, acc, h, hl => by
    unfold dcF
    obtain ⟨s1, e1, z⟩ := wg_ex (h d List.mem_cons_self)
    rw [e1]
    dsimp only
    refine wp_bnd ⟨?_⟩
    show Wp (if _ then _ else _) _ _
    rw [if_pos rfl]
    refine wp_bnd (wp_mono z (fun _ _ z => z) fun h1 s2 z => wp_bnd (wp_mono z (fun _ _ z => z) fun h2 s3 z => ?_))
    obtain ⟨w, ew, ek, z⟩ := z
    have z := take_one (Q := fun y s4 => y = (f d).2 ∧ wipeS s4 vs = s0) (h := h2) (s := s3) (by
      obtain ⟨p, e, z1, z2⟩ := wg_ex z
      unfold Wk
      rw [e]
      exact ⟨_, z1, rfl, z2⟩)
    obtain ⟨⟨y, s4⟩, e4, rfl, e5⟩ := wg_ex z
    rw [ew, e4]
    dsimp only [Option.bind] at e5 ⊢
    rw [ek]
    dsimp only
    rw [if_pos (by simp at hl; omega), e5]
    have := dPut_len acc (f d).1 (f d).2
    exact dcF_map f vs ds _ (fun d hd => h d (List.mem_cons_of_mem _ hd)) (by simp at hl ⊢; omega)
theorem wp_dc (f : PyData → Key × PyData) (h : Wp (fi s) E fun ds s1 => ∃ s0, wipeS s1 vs = s0 ∧ ds.length ≤ 100000 ∧ (∀ d ∈ ds, Wg (fg s0 (vf d)) fun s1 => Wp (fk s1) E0 fun h1 s2 => Wp (fv s2) E0 fun h2 s3 => ∃ w, lookH s3 h1 = some w ∧ keyOf w.d = some (f d).1 ∧ Wk s3 [h2] fun es s4 => es = [(f d).2] ∧ wipeS s4 vs = s0) ∧ P (.val ⟨.dict (dcD f ds []), .mp .fz, false⟩) s0) : Wp (fDc fi fg fYes fk fv vs s) E P := by
  rw [ap_dc]
  refine wp_bind (wp_mono h (fun _ _ z => z) fun ds s1 z => ?_)
  obtain ⟨s0, e, hl, z1, z2⟩ := z
  rw [e]
  refine wp_bnd (wp_mono (dcF_map f vs ds [] z1 (by simpa using hl)) (fun _ _ z => z) fun a s z => ?_)
  obtain ⟨rfl, rfl⟩ := z
  exact ⟨z2⟩
/-! a list of one's own is walked where it stands -/
theorem ws_loopI {N : Sta → Prop} {R : Hd → Sta → Prop} {B C : Sta → Prop} {f : FS} (I : Nat → Sta → Prop) (own : ∀ k s, I k s → ∃ l, s.sl[c]? = some (some ⟨.list ds, .ls .fz, l⟩)) (st : ∀ k s d, ds[k]? = some d → I k s → Wg (fg s (vf d)) fun s1 => Ws (f s1) E R N (I (k + 1)) (I (k + 1))) (hN : ∀ s, I ds.length s → N s) : ∀ n k s, n + k = ds.length → I k s → Ws (loopI c fg f n k s) E R B C N
  | 0, k, s, e, i => by
    obtain ⟨l, o⟩ := own k s i
    obtain ⟨sl, ob⟩ := s
    unfold loopI
    (try dsimp only)
    rw [own_at o rfl]
    (try dsimp only)
    rw [if_pos (by omega)]
    exact ⟨hN _ (by rw [← e, Nat.zero_add]; exact i)⟩
  | n + 1, k, s, e, i => by
    obtain ⟨l, o⟩ := own k s i
    obtain ⟨sl, ob⟩ := s
    have lt : k < ds.length := by omega
    unfold loopI
    (try dsimp only)
    rw [own_at o rfl]
    (try dsimp only)
    rw [List.getElem?_eq_getElem lt]
    (try dsimp only)
    obtain ⟨s1, e1, z⟩ := wg_ex (st k _ ds[k] (List.getElem?_eq_getElem lt) i)
    rw [e1]
    (try dsimp only)
    refine ws_bindS (ws_mono z (fun _ _ z => z) (fun _ _ z => ⟨z⟩) (fun _ z => ⟨z⟩) (fun s2 z => ?_) fun s2 z => ?_)
    all_goals exact ws_loopI I own st hN n (k + 1) s2 (by omega) z
theorem ws_forN {N : Sta → Prop} {R : Hd → Sta → Prop} {B C : Sta → Prop} {f : FS} (I : Nat → Sta → Prop) (own : ∀ k s, I k s → ∃ l, s.sl[c]? = some (some ⟨.list ds, .ls .fz, l⟩)) (i0 : I 0 s) (st : ∀ k s d, ds[k]? = some d → I k s → Wg (fg s (vf d)) fun s1 => Ws (f s1) E R N (I (k + 1)) (I (k + 1))) (hN : ∀ s, I ds.length s → N s) : Ws (fForN c fg f s) E R B C N := by
  obtain ⟨l, o⟩ := own 0 s i0
  obtain ⟨sl, ob⟩ := s
  rw [ap_forN, own_at o rfl]
  exact ws_loopI I own st hN ds.length 0 _ rfl i0
end
end Z
namespace Z
open PySem PySem.Spec PyProof.Rows L2 GxR
def F_law_cell : FDef := fDef 0
    (fSeq (fIfS (fTv (fOp gLt (fN 1) (fB gLen (fCons (fN 0) fNil)))) (fRet (fOp gSub2 (fN 0) (fN 1))) fNext)
      (fRet (fC (.int (0)))))
def F_law_digits : FDef := fDef 5
    (fSeq (fAsg (fLst fNil) (fun s h => asg s 3 h))
      (fSeq (fFor (fRng2 (fCons (fN 1) (fCons (fN 2) fNil))) (fun s h => asg s 4 h) (fSeq (fAsg (fCallN 2 F_law_cell (fCons (fN 0) (fCons (fN 4) fNil))) (fun s h => asg s 5 h))
      (fSeq (fIfS (fTv (fOp gLt (fN 5) (fC (.int (0))))) (fAsg (fOp gMinus (fC (.int (1))) (fOp gMul (fC (.int (2))) (fN 5))) (fun s h => asg s 5 h)) fNext)
      (fIfS (fTv (fOp gGe (fN 5) (fOp (gInt bPow fun i j => i ^ j.toNat) (fC (.int (10))) (fC (.int (18)))))) (fFor (fRng1 (fCons (fC (.int (60))) fNil)) (fun s h => asg s 6 h) (fIfS (fTv (fOp gGt (fN 5) (fC (.int (0))))) (fSeq (fDrop (fLm 3 mAppend (fCons (fOp (gInt bMod fun i j => i % j) (fB gInt1 (fCons (fN 5) fNil)) (fC (.int (1000)))) fNil)))
      (fAsg (fOp (gInt bDiv fun i j => i / j) (fN 5) (fC (.int (1000)))) (fun s h => asg s 5 h))) fNext)) (fSeq (fAsg (fOp (gInt bMod fun i j => i % j) (fB gInt1 (fCons (fOp gAdd (fOp gAdd (fOp gMul (fN 5) (fC (.int (48271)))) (fOp gMul (fN 4) (fC (.int (69621))))) (fC (.int (11)))) fNil)) (fC (.int (2147483647)))) (fun s h => asg s 7 h))
      (fFor (fRng1 (fCons (fC (.int (12))) fNil)) (fun s h => asg s 6 h) (fSeq (fAsg (fOp (gInt bMod fun i j => i % j) (fB gInt1 (fCons (fOp gAdd (fOp gAdd (fOp gMul (fN 7) (fC (.int (16807)))) (fOp gMul (fC (.int (7))) (fN 6))) (fC (.int (1)))) fNil)) (fC (.int (2147483647)))) (fun s h => asg s 7 h))
      (fDrop (fLm 3 mAppend (fCons (fOp (gInt bMod fun i j => i % j) (fB gInt1 (fCons (fOp (gInt bDiv fun i j => i / j) (fN 7) (fC (.int (997)))) fNil)) (fC (.int (1000)))) fNil))))))))))
      (fRet (fN 3))))
def F_law_draw : FDef := fDef 1
    (fSeq (fAsg (fOp gSub2 (fN 0) (fC (.int (1)))) (fun s h => asg s 2 h))
      (fSeq (fStore 0 (fC (.int (1))) (fOp gAdd (fN 2) (fC (.int (1)))))
      (fSeq (fIfS (fTv (fOp gLt (fN 2) (fB gLen (fCons (fOp gSub2 (fN 0) (fC (.int (0)))) fNil)))) (fRet (fOp (gInt bMod fun i j => i % j) (fB gInt1 (fCons (fOp gSub2 (fOp gSub2 (fN 0) (fC (.int (0)))) (fN 2)) fNil)) (fN 1))) fNext)
      (fRet (fOp (gInt bMod fun i j => i % j) (fB gInt1 (fCons (fOp gAdd (fOp gMul (fN 2) (fC (.int (7)))) (fC (.int (3)))) fNil)) (fN 1))))))
def F_law_value : FDef := fDef 0
    (fSeq (fIfS (fTv (fOp gEq (fCallN 2 F_law_draw (fCons (fN 0) (fCons (fC (.int (6))) fNil))) (fC (.int (0))))) (fRet (fC .none)) fNext)
      (fSeq (fIfS (fTv (fOp gEq (fN 1) (fC (.str "text")))) (fRet (fOp gSub2 (fLst (fCons (fC (.str "ann")) (fCons (fC (.str "bob")) (fCons (fC (.str "c")) (fCons (fC (.str "")) fNil))))) (fCallN 2 F_law_draw (fCons (fN 0) (fCons (fC (.int (4))) fNil))))) fNext)
      (fRet (fOp gSub2 (fLst (fCons (fCallN 2 F_law_draw (fCons (fN 0) (fCons (fC (.int (6))) fNil))) (fCons (fOp gMinus (fCallN 2 F_law_draw (fCons (fN 0) (fCons (fC (.int (6))) fNil))) (fC (.int (3)))) (fCons (fOp gMinus (fCallN 2 F_law_draw (fCons (fN 0) (fCons (fC (.int (40))) fNil))) (fC (.int (20)))) fNil)))) (fCallN 2 F_law_draw (fCons (fN 0) (fCons (fC (.int (3))) fNil)))))))
def F_law_pairs : FDef := fDef 4
    (fSeq (fAsg (fLst fNil) (fun s h => asg s 2 h))
      (fSeq (fFor (fRng1 (fCons (fCallN 2 F_law_draw (fCons (fN 0) (fCons (fOp gAdd (fN 1) (fC (.int (1)))) fNil))) fNil)) (fun s h => asg s 3 h) (fSeq (fAsg (fOp gAdd (fC (.int (1))) (fCallN 2 F_law_draw (fCons (fN 0) (fCons (fC (.int (9))) fNil)))) (fun s h => asg s 4 h))
      (fIfS (fTv (fOp gNin2 (fN 4) (fLcN 2 (fun s h => asg s 5 h) fYes (fOp gSub2 (fNv 5) (fC (.int (0)))) [5]))) (fDrop (fLm 2 mAppend (fCons (fTup (fCons (fN 4) (fCons (fTup (fCons (fCallN 2 F_law_value (fCons (fN 0) (fCons (fC (.str "integer")) fNil))) fNil)) fNil))) fNil))) fNext)))
      (fRet (fB gTuple (fCons (fN 2) fNil)))))
def F_law_near : FDef := fDef 4
    (fSeq (fAsg (fB gList (fCons (fN 1) fNil)) (fun s h => asg s 2 h))
      (fSeq (fFor (fRng1 (fCons (fCallN 2 F_law_draw (fCons (fN 0) (fCons (fC (.int (4))) fNil))) fNil)) (fun s h => asg s 3 h) (fIfS (fTv (fOp gGt (fB gLen (fCons (fN 2) fNil)) (fC (.int (0))))) (fSeq (fAsg (fOp (gInt bMod fun i j => i % j) (fB gInt1 (fCons (fCallN 2 F_law_draw (fCons (fN 0) (fCons (fC (.int (90))) fNil))) fNil)) (fB gLen (fCons (fN 2) fNil))) (fun s h => asg s 4 h))
      (fSeq (fAsg (fLm 2 mPopAt (fCons (fN 4) fNil)) (fun s h => asg s 5 h))
      (fIfS (fTv (fOp gGt (fCallN 2 F_law_draw (fCons (fN 0) (fCons (fC (.int (3))) fNil))) (fC (.int (0))))) (fDrop (fLm 2 mInsert (fCons (fOp (gInt bMod fun i j => i % j) (fB gInt1 (fCons (fCallN 2 F_law_draw (fCons (fN 0) (fCons (fC (.int (90))) fNil))) fNil)) (fOp gAdd (fB gLen (fCons (fN 2) fNil)) (fC (.int (1))))) (fCons (fN 5) fNil)))) fNext))) fNext))
      (fRet (fB gTuple (fCons (fN 2) fNil)))))
def F_outs : FDef := fDef 5
    (fSeq (fAsg (fLst fNil) (fun s h => asg s 2 h))
      (fSeq (fAsg (fLcN 0 (fgTup 2 (fgCons (fun s h => asg s 5 h) (fgCons (fun s h => asg s 6 h) fgNil))) fYes (fNv 5) [5, 6]) (fun s h => asg s 3 h))
      (fSeq (fFor (fRev1 (fB gLen (fCons (fN 0) fNil))) (fun s h => asg s 4 h) (fIfS (fTv (fOp gNin2 (fOp gSub2 (fN 3) (fN 4)) (fN 1))) (fSeq (fDrop (fLm 2 mAppend (fCons (fTup (fCons (fC (.str "out")) (fCons (fN 4) fNil))) fNil)))
      (fDrop (fLm 3 mPopAt (fCons (fN 4) fNil)))) fNext))
      (fRetT2 2 3))))
def F_moves : FDef := fDef 8
    (fSeq (fAsgT2 (fCallN 2 F_outs (fCons (fN 0) (fCons (fDc (fWalk (fN 1)) (fgTup 2 (fgCons (fun s h => asg s 6 h) (fgCons (fun s h => asg s 9 h) fgNil))) fYes (fNv 6) (fC (.bool true)) [6, 9]) fNil))) 2 3)
      (fSeq (fAsg (fDc (fWalk (fN 0)) (fgTup 2 (fgCons (fun s h => asg s 6 h) (fgCons (fun s h => asg s 7 h) fgNil))) fYes (fNv 6) (fNv 7) [6, 7]) (fun s h => asg s 4 h))
      (fSeq (fFor (fEnum (fCons (fN 1) fNil)) (fgTup 2 (fgCons (fun s h => asg s 5 h) (fgCons (fgTup 2 (fgCons (fun s h => asg s 6 h) (fgCons (fun s h => asg s 7 h) fgNil))) fgNil))) (fSeq (fIfS (fTv (fOp gNin2 (fNv 6) (fN 4))) (fSeq (fDrop (fLm 2 mAppend (fCons (fTup (fCons (fC (.str "in")) (fCons (fN 5) (fCons (fNv 6) (fCons (fNv 7) fNil))))) fNil)))
      (fSeq (fDrop (fLm 3 mInsert (fCons (fN 5) (fCons (fNv 6) fNil))))
      fCt)) fNext)
      (fSeq (fAsg (fMv "list" gIndex (fN 3) (fCons (fNv 6) fNil)) (fun s h => asg s 8 h))
      (fSeq (fIfS (fTv (fOp gNe (fN 8) (fN 5))) (fSeq (fDrop (fLm 2 mAppend (fCons (fTup (fCons (fC (.str "go")) (fCons (fN 8) (fCons (fN 5) fNil)))) fNil)))
      (fDrop (fLm 3 mInsert (fCons (fN 5) (fCons (fLm 3 mPopAt (fCons (fN 8) fNil)) fNil))))) fNext)
      (fIfS (fTv (fOp gNe (fOp gSub2 (fN 4) (fNv 6)) (fNv 7))) (fDrop (fLm 2 mAppend (fCons (fTup (fCons (fC (.str "cells")) (fCons (fN 5) (fCons (fNv 7) fNil)))) fNil))) fNext)))))
      (fRet (fN 2)))))
def F_with_pair : FDef := fDef 2
    (fSeq (fIfS (fTor (fTnot (fTv (fChain gLe gLe (fC (.int (0))) (fN 1) (fB gLen (fCons (fN 0) fNil))))) (fTv (fOp gIn2 (fOp gSub2 (fN 2) (fC (.int (0)))) (fLcN 0 (fgTup 2 (fgCons (fun s h => asg s 3 h) (fgCons (fun s h => asg s 4 h) fgNil))) fYes (fNv 3) [3, 4])))) (fRz0 "BadFit") fNext)
      (fRet (fOp gAdd (fOp gAdd (fSlice (fN 0) fNoP (fPart (fN 1))) (fLst (fCons (fN 2) fNil))) (fSlice (fN 0) (fPart (fN 1)) fNoP))))
def F_behind_move : FDef := fDef 4
    (fSeq (fPar 2 3 (fCons (fOp gSub2 (fN 1) (fC (.int (0)))) (fCons (fOp gSub2 (fN 1) (fC (.int (1)))) fNil)))
      (fSeq (fIfS (fTv (fOp gEq (fN 2) (fC (.str "in")))) (fRet (fCallN 3 F_with_pair (fCons (fN 0) (fCons (fN 3) (fCons (fTup (fCons (fOp gSub2 (fN 1) (fC (.int (2)))) (fCons (fOp gSub2 (fN 1) (fC (.int (3)))) fNil))) fNil))))) fNext)
      (fSeq (fIfS (fTnot (fTv (fChain gLe gLt (fC (.int (0))) (fN 3) (fB gLen (fCons (fN 0) fNil))))) (fRz0 "BadFit") fNext)
      (fSeq (fAsg (fOp gSub2 (fOp gSub2 (fN 0) (fN 3)) (fC (.int (0)))) (fun s h => asg s 4 h))
      (fSeq (fAsg (fOp gAdd (fSlice (fN 0) fNoP (fPart (fN 3))) (fSlice (fN 0) (fPart (fOp gAdd (fN 3) (fC (.int (1))))) fNoP)) (fun s h => asg s 5 h))
      (fSeq (fIfS (fTv (fOp gEq (fN 2) (fC (.str "out")))) (fRet (fN 5)) fNext)
      (fSeq (fIfS (fTv (fOp gEq (fN 2) (fC (.str "cells")))) (fRet (fCallN 3 F_with_pair (fCons (fN 5) (fCons (fN 3) (fCons (fTup (fCons (fN 4) (fCons (fOp gSub2 (fN 1) (fC (.int (2)))) fNil))) fNil))))) fNext)
      (fRet (fCallN 3 F_with_pair (fCons (fN 5) (fCons (fOp gSub2 (fN 1) (fC (.int (2)))) (fCons (fOp gSub2 (fN 0) (fN 3)) fNil))))))))))))
def F_moved_by : FDef := fDef 2
    (fSeq (fAsg (fB gList (fCons (fN 0) fNil)) (fun s h => asg s 2 h))
      (fSeq (fForN 1 (fun s h => asg s 3 h) (fAsg (fCallN 2 F_behind_move (fCons (fN 2) (fCons (fN 3) fNil))) (fun s h => asg s 2 h)))
      (fRet (fB gTuple (fCons (fN 2) fNil)))))
def F_law_refused : FDef := fDef 1
    (fSeq (fTryAs 2 (fun x => if x = "TableError" then some true else if x = "BadFit" then some true else none) (fDrop (fCallN 2 F_moved_by (fCons (fN 0) (fCons (fLst (fCons (fN 1) fNil)) fNil)))) (fun e => (fRet (fIsX (fun x => if x = "TableError" then some false else if x = "BadFit" then some true else none) e))))
      (fRet (fC (.bool false))))
def F_law_same : FDef := fDef 0
    (fRet (fOp gEq (fB gRepr (fCons (fN 0) fNil)) (fB gRepr (fCons (fN 1) fNil))))
def F_law_made : FDef := fDef 9
    (fSeq (fAsg (fB gList (fCons (fN 0) fNil)) (fun s h => asg s 2 h))
      (fSeq (fAsg (fLst fNil) (fun s h => asg s 3 h))
      (fSeq (fAsg (fLcN 1 (fun s h => asg s 10 h) fYes (fOp gSub2 (fNv 10) (fC (.int (0)))) [10]) (fun s h => asg s 4 h))
      (fSeq (fFor (fRng3 (fCons (fOp gMinus (fB gLen (fCons (fN 0) fNil)) (fC (.int (1)))) (fCons (fNeg (fC (.int (1)))) (fCons (fNeg (fC (.int (1)))) fNil)))) (fun s h => asg s 5 h) (fIfS (fTv (fOp gNin2 (fOp gSub2 (fOp gSub2 (fN 2) (fN 5)) (fC (.int (0)))) (fN 4))) (fSeq (fDrop (fLm 3 mAppend (fCons (fTup (fCons (fC (.str "out")) (fCons (fN 5) fNil))) fNil)))
      (fAsg (fOp gAdd (fSlice (fN 2) fNoP (fPart (fN 5))) (fSlice (fN 2) (fPart (fOp gAdd (fN 5) (fC (.int (1))))) fNoP)) (fun s h => asg s 2 h))) fNext))
      (fSeq (fFor (fRng1 (fCons (fB gLen (fCons (fN 1) fNil)) fNil)) (fun s h => asg s 5 h) (fSeq (fAsg (fOp gSub2 (fN 1) (fN 5)) (fgTup 2 (fgCons (fun s h => asg s 6 h) (fgCons (fun s h => asg s 7 h) fgNil))))
      (fSeq (fAsg (fLcN 2 (fun s h => asg s 10 h) fYes (fOp gSub2 (fNv 10) (fC (.int (0)))) [10]) (fun s h => asg s 8 h))
      (fIfS (fTv (fOp gNin2 (fN 6) (fN 8))) (fSeq (fDrop (fLm 3 mAppend (fCons (fTup (fCons (fC (.str "in")) (fCons (fN 5) (fCons (fN 6) (fCons (fN 7) fNil))))) fNil)))
      (fAsg (fOp gAdd (fOp gAdd (fSlice (fN 2) fNoP (fPart (fN 5))) (fLst (fCons (fTup (fCons (fN 6) (fCons (fN 7) fNil))) fNil))) (fSlice (fN 2) (fPart (fN 5)) fNoP)) (fun s h => asg s 2 h))) (fSeq (fAsg (fMv "list" gIndex (fN 8) (fCons (fN 6) fNil)) (fun s h => asg s 9 h))
      (fSeq (fIfS (fTv (fOp gNe (fN 9) (fN 5))) (fSeq (fDrop (fLm 3 mAppend (fCons (fTup (fCons (fC (.str "go")) (fCons (fN 9) (fCons (fN 5) fNil)))) fNil)))
      (fSeq (fAsg (fOp gSub2 (fN 2) (fN 9)) (fun s h => asg s 10 h))
      (fSeq (fAsg (fOp gAdd (fSlice (fN 2) fNoP (fPart (fN 9))) (fSlice (fN 2) (fPart (fOp gAdd (fN 9) (fC (.int (1))))) fNoP)) (fun s h => asg s 2 h))
      (fAsg (fOp gAdd (fOp gAdd (fSlice (fN 2) fNoP (fPart (fN 5))) (fLst (fCons (fNv 10) fNil))) (fSlice (fN 2) (fPart (fN 5)) fNoP)) (fun s h => asg s 2 h))))) fNext)
      (fIfS (fTv (fOp gNe (fOp gSub2 (fOp gSub2 (fN 2) (fN 5)) (fC (.int (1)))) (fN 7))) (fSeq (fDrop (fLm 3 mAppend (fCons (fTup (fCons (fC (.str "cells")) (fCons (fN 5) (fCons (fN 7) fNil)))) fNil)))
      (fAsg (fOp gAdd (fOp gAdd (fSlice (fN 2) fNoP (fPart (fN 5))) (fLst (fCons (fTup (fCons (fN 6) (fCons (fN 7) fNil))) fNil))) (fSlice (fN 2) (fPart (fOp gAdd (fN 5) (fC (.int (1))))) fNoP)) (fun s h => asg s 2 h))) fNext)))))))
      (fRet (fN 3)))))))
def F_law : FDef := fDef 7
    (fSeq (fAsg (fLst (fCons (fCallN 3 F_law_digits (fCons (fN 0) (fCons (fC (.int (0))) (fCons (fC (.int (45))) fNil)))) (fCons (fC (.int (0))) fNil))) (fun s h => asg s 1 h))
      (fSeq (fFor (fRng1 (fCons (fC (.int (4))) fNil)) (fun s h => asg s 2 h) (fSeq (fAsg (fCallN 2 F_law_pairs (fCons (fN 1) (fCons (fC (.int (7))) fNil))) (fun s h => asg s 3 h))
      (fSeq (fAsg (fCallN 2 F_law_near (fCons (fN 1) (fCons (fN 3) fNil))) (fun s h => asg s 4 h))
      (fSeq (fIfS (fTv (fOp gEq (fCallN 2 F_law_draw (fCons (fN 1) (fCons (fC (.int (3))) fNil))) (fC (.int (0))))) (fAsg (fCallN 2 F_law_pairs (fCons (fN 1) (fCons (fC (.int (7))) fNil))) (fun s h => asg s 4 h)) fNext)
      (fSeq (fAsg (fCallN 2 F_moves (fCons (fN 3) (fCons (fN 4) fNil))) (fun s h => asg s 5 h))
      (fSeq (fIfS (fTor (fTnot (fTv (fCallN 2 F_law_same (fCons (fN 5) (fCons (fCallN 2 F_law_made (fCons (fN 3) (fCons (fN 4) fNil))) fNil))))) (fTor (fTnot (fTv (fCallN 2 F_law_same (fCons (fCallN 2 F_moved_by (fCons (fN 3) (fCons (fN 5) fNil))) (fCons (fN 4) fNil))))) (fTv (fOp gNe (fCallN 2 F_moves (fCons (fN 3) (fCons (fN 3) fNil))) (fLst fNil))))) (fRet (fC (.bool false))) fNext)
      (fSeq (fAsg (fB gLen (fCons (fN 3) fNil)) (fun s h => asg s 6 h))
      (fSeq (fAsg (fLst (fCons (fTup (fCons (fC (.str "out")) (fCons (fN 6) fNil))) (fCons (fTup (fCons (fC (.str "go")) (fCons (fN 6) (fCons (fC (.int (0))) fNil)))) (fCons (fTup (fCons (fC (.str "cells")) (fCons (fN 6) (fCons (fTup (fCons (fC (.int (1))) fNil)) fNil)))) (fCons (fTup (fCons (fC (.str "in")) (fCons (fOp gAdd (fN 6) (fC (.int (1)))) (fCons (fC (.int (77))) (fCons (fTup (fCons (fC (.int (1))) fNil)) fNil))))) (fCons (fTup (fCons (fC (.str "out")) (fCons (fNeg (fC (.int (1)))) fNil))) (fCons (fTup (fCons (fC (.str "go")) (fCons (fC (.int (0))) (fCons (fN 6) fNil)))) fNil))))))) (fun s h => asg s 7 h))
      (fSeq (fIfS (fTv (fOp gGt (fN 6) (fC (.int (0))))) (fDrop (fLm 7 mAppend (fCons (fTup (fCons (fC (.str "in")) (fCons (fC (.int (0))) (fCons (fOp gSub2 (fOp gSub2 (fN 3) (fC (.int (0)))) (fC (.int (0)))) (fCons (fTup (fCons (fC (.int (1))) fNil)) fNil))))) fNil))) fNext)
      (fIfS (fTnot (fTv (fCallN 2 F_law_refused (fCons (fN 3) (fCons (fOp gSub2 (fN 7) (fOp (gInt bMod fun i j => i % j) (fB gInt1 (fCons (fCallN 2 F_law_draw (fCons (fN 1) (fCons (fC (.int (90))) fNil))) fNil)) (fB gLen (fCons (fN 7) fNil)))) fNil))))) (fRet (fC (.bool false))) fNext))))))))))
      (fRet (fC (.bool true)))))
end Z
local macro_rules | `(tactic| walk_at "evk") => `(tactic| first
  | ((with_reducible refine Z.lk_f (d := ?kd) (t := ?kt) (l := ?kl) ?ka); (case ka => exact rfl))
  | ((with_reducible refine Z.lk_s (d := ?kd) (t := ?kt) (l := ?kl) ?ka ?kb); (case ka => exact rfl); (case kb => exact rfl)))
local macro_rules | `(tactic| walk_at "evs") => `(tactic| first
  | ((dsimp only [List.set, Z.wipeL]) <;> exact rfl) | exact rfl)
local macro_rules | `(tactic| walk_at "ev1") => `(tactic| first
  | with_reducible refine Z.ws_seq ?_ | with_reducible refine Z.ws_asg ?_ | with_reducible refine Z.ws_if ?_ | with_reducible refine Z.ws_ret ?_ | with_reducible refine Z.ws_drop ?_ | with_reducible refine Z.ws_next ?_ | with_reducible refine Z.ws_ct ?_ | with_reducible refine Z.ws_bk ?_ | with_reducible refine Z.ws_retN ?_ | with_reducible refine Z.ws_rz ?_
  | with_reducible refine Z.wp_op ?_ | with_reducible refine Z.wp_c ?_
  | ((with_reducible refine Z.wp_nv (d := ?zd) (t := ?zt) (l := ?zl) ?ze ?zc ?_); (case ze => exact rfl); (case zc => exact rfl))
  | ((with_reducible refine Z.wp_ns (d := ?zd) (t := ?zt) (l := ?zl) ?ze ?zc ?_); (case ze => exact rfl); (case zc => exact rfl))
  | ((with_reducible refine Z.wp_nx (d := ?zd) (t := ?zt) (l := ?zl) ?ze ?zc ?_); (case ze => exact rfl); (case zc => exact rfl))
  | with_reducible refine Z.wp_tv ?_ | with_reducible refine Z.wb_bool ?_ | with_reducible refine Z.wp_tor ?_ | with_reducible refine Z.wp_tand ?_ | with_reducible refine Z.wp_tnot ?_ | with_reducible refine Z.wp_chain ?_ | with_reducible refine Z.wp_ifx ?_ | with_reducible refine Z.wp_and ?_ | with_reducible refine Z.wp_or ?_ | with_reducible refine Z.wp_not ?_ | with_reducible refine Z.wp_tt ?_
  | with_reducible refine Z.wp_nil ?_ | with_reducible refine Z.wp_cons ?_
  | with_reducible refine Z.wp_tup ?_ | with_reducible refine Z.wp_lst ?_ | with_reducible refine Z.wp_b ?_
  | ((with_reducible refine Z.wp_lm (ds := ?zd) (l := ?zl) ?ze ?_); (case ze => exact rfl))
  | with_reducible refine Z.wk_nil ?_
  | ((with_reducible refine Z.wk_val ?zc ?_); (case zc => exact rfl))
  | ((with_reducible refine Z.wk_slot (d := ?zd) (t := ?zt) ?ze ?zc ?zk ?z2 ?_); (case ze => exact rfl); (case zc => exact rfl); (case zk => exact rfl); (case z2 => walk_at "evs"))
  | ((with_reducible refine Z.wg_val (sl' := ?zs) ?zj ?ze ?_); (case zj => first | exact rfl | assumption); (case ze => walk_at "evs"))
  | ((with_reducible refine Z.wg_slot (d := ?zd) (t := ?zt) (sl1 := ?zs1) (sl' := ?zs2) ?ze1 ?zc ?zk ?ze2 ?zj ?ze ?_); (case ze1 => exact rfl); (case zc => exact rfl); (case zk => exact rfl); (case ze2 => walk_at "evs"); (case zj => first | exact rfl | assumption); (case ze => walk_at "evs"))
  | ((with_reducible refine Z.ws_store (ds := ?zd) (l := ?zl) ?ze ?_); (case ze => exact rfl))
  | with_reducible refine Z.wg_cons ?_ | with_reducible refine Z.wg_nil ?_
  | ((with_reducible refine Z.wg_tup (ds := ?zd) (t := ?zt) (l := ?zl) ?ze ?zc ?_); (case ze => walk_at "evk"); (case zc => exact rfl))
  | with_reducible refine Z.wo_none ?_
  | with_reducible refine Z.wp_slice ?_
  | with_reducible refine Z.wi_walk ?_ | with_reducible refine Z.wi_enum ?_
  | with_reducible refine Z.wp_call ?_)
local macro_rules | `(tactic| walk_at "evg") => `(tactic| first
  | with_reducible exact Z.gv_add | with_reducible exact Z.gv_sub | with_reducible exact Z.gv_lt | with_reducible exact Z.gv_gt | with_reducible exact Z.gv_le | with_reducible exact Z.gv_ge | with_reducible exact Z.gv_eq | with_reducible exact Z.gv_ne | with_reducible exact Z.gv_eqS
  | ((with_reducible refine Z.g_ixL (d := ?gd) ?ga ?gb); (case ga => exact rfl); (case gb => exact rfl))
  | ((with_reducible refine Z.g_ixT (d := ?gd) ?gb); (case gb => exact rfl))
  | ((with_reducible refine Z.gv_mod ?ga); (case ga => first | assumption | omega)))
local macro_rules | `(tactic| walk_at "evl") => `(tactic|
  ((with_reducible refine Z.wp_l2 (w1 := ?za) (w2 := ?zb) (w := ?zw) ?ze1 ?ze2 ?ze ?_); (case ze1 => walk_at "evk"); (case ze2 => walk_at "evk"); (case ze => walk_at "evg")))
local macro_rules | `(tactic| walk_at "evm") => `(tactic|
  ((with_reducible refine' Z.wp_l2 ?ze1 ?ze2 ?ze ?_); (case ze1 => walk_at "evk"); (case ze2 => walk_at "evk")))
local macro_rules | `(tactic| walk_at "ev") => `(tactic| repeat (first | walk_at "ev1" | walk_at "evl"))
local macro_rules | `(tactic| walk_at "eva") => `(tactic| repeat (first
  | ((with_reducible refine Z.args_cons (w := ?kw) (args := ?kr) ?ka ?kb); (case ka => walk_at "evk"); (case kb => walk_at "eva"))
  | with_reducible exact Z.args_nil))
local macro_rules | `(tactic| walk_at "evw") => `(tactic|
  ((with_reducible refine' Z.wl_mk ?ze ?zm ?z2 ?_); (case ze => exact rfl)))
namespace Z2
open Z PySem PySem.Spec PyProof.Rows L2 GxR
/-- a box: what is drawn, where -/
abbrev bxD (ds : List PyData) (at_ : Nat) : PyData := .list [.list ds, .int (at_ : Nat)]
/-- ints -/
def AllI (ds : List PyData) : Prop := ∀ d ∈ ds, ∃ i, d = .int i
theorem draw_ok {ds : List PyData} {l l2 : Bool} (hd : AllI ds) (a : Nat) {m : Int} (hm : 0 < m) (ob : List Ob1) : Spc F_law_draw [⟨bxD ds a, .ls .fz, l⟩, ⟨.int m, .fz, l2⟩] ob D0 fun w as ob' => ∃ r, 0 ≤ r ∧ r < m ∧ w = .f (.int r) ∧ as = [some ⟨bxD ds (a + 1), .ls .fz, true⟩, none] ∧ ob' = ob := by
  refine spc (s := ⟨[some ⟨bxD ds a, .ls .fz, true⟩, some (.f (.int m)), none], ob⟩) rfl rfl ?_
  walk_at "ev"
  refine wg_set (x := 1) (j := 1) (d := .int ((a + 1 : Nat) : Int)) rfl ⟨⟨rfl, _, _, rfl⟩⟩ rfl rfl rfl ?_
  walk_at "ev"
  refine wb_mk rfl rfl ?_
  walk_at "ev"
  refine ⟨fun h => ?_, fun h => ?_⟩
  · have lt : a < ds.length := by simpa using h
    obtain ⟨i, ei⟩ := hd ds[a] (List.getElem_mem lt)
    walk_at "ev"
    walk_at "evm"
    case ze => exact g_ixL rfl (atI_nat (List.getElem?_eq_getElem lt))
    walk_at "ev"
    rw [ei]
    refine wb_mk rfl rfl ?_
    walk_at "ev"
    exact ⟨_, rfl, _, Int.emod_nonneg _ (by omega), Int.emod_lt_of_pos _ hm, rfl, rfl, rfl⟩
  · walk_at "ev"
    walk_at "evm"
    case ze => exact g_mulR (by decide) (by decide)
    walk_at "ev"
    refine wb_mk rfl rfl ?_
    walk_at "ev"
    exact ⟨_, rfl, _, Int.emod_nonneg _ (by omega), Int.emod_lt_of_pos _ hm, rfl, rfl, rfl⟩
theorem wp_draw {ds : List PyData} {l l2 : Bool} {a b : Nat} {m : Int} {ob : List Ob1} {sl sl' : List (Option Vl)} {E : Xn → Sta → Prop} {P : Hd → Sta → Prop} (e : sl[b]? = some (some ⟨bxD ds a, .ls .fz, l⟩)) (hd : AllI ds) (hm : 0 < m) (e2 : sl.set b (some ⟨bxD ds (a + 1), .ls .fz, l⟩) = sl') (h : ∀ r, 0 ≤ r → r < m → P (.val (.f (.int r))) ⟨sl', ob⟩) : ([.slot b, .val ⟨.int m, .fz, l2⟩] : List Hd).length = 2 ∧ Wp (callD F_law_draw ⟨sl, ob⟩ [.slot b, .val ⟨.int m, .fz, l2⟩]) E P := by
  have o := own_at (ob := ob) e rfl
  refine ⟨rfl, wp_callD (args := [⟨bxD ds a, .ls .fz, l⟩, ⟨.int m, .fz, l2⟩]) (args_cons (lk_s e rfl) (args_cons (lk_f rfl) args_nil)) ?_ (draw_ok hd a hm ob) (fun _ _ _ z => False.elim z) ?_⟩
  · unfold lentS
    rw [o]
    rfl
  · rintro w as ob' ⟨r, r0, r1, rfl, rfl, rfl⟩
    unfold backS
    rw [o]
    dsimp only [backS, Option.map]
    rw [e2]
    exact h r r0 r1
theorem cell_ok {ns : List Int} (k : Nat) (l2 : Bool) (ob : List Ob1) : Spc F_law_cell [⟨.list (ns.map PyData.int), .rd, false⟩, ⟨.int (k : Nat), .fz, l2⟩] ob D0 fun w as ob' => ∃ i, w = .f (.int i) ∧ as = [none, none] ∧ ob' = ob := by
  refine spc (s := ⟨[some ⟨.list (ns.map PyData.int), .rd, false⟩, some ⟨.int (k : Nat), .fz, false⟩], ob⟩) rfl rfl ?_
  walk_at "ev"
  refine wb_mk rfl rfl ?_
  walk_at "ev"
  refine ⟨fun h => ?_, fun h => ?_⟩
  · have lt : k < ns.length := by simpa using h
    walk_at "ev"
    walk_at "evm"
    case ze => exact g_ixL rfl (atI_nat (by rw [List.getElem?_map, List.getElem?_eq_getElem lt]; rfl))
    exact ⟨_, rfl, _, rfl, rfl, rfl⟩
  · walk_at "ev"
    exact ⟨_, rfl, _, rfl, rfl, rfl⟩
theorem wp_cell {ns : List Int} {l2 : Bool} {k : Nat} {ob : List Ob1} {sl : List (Option Vl)} {E : Xn → Sta → Prop} {P : Hd → Sta → Prop} (h : ∀ i, P (.val (.f (.int i))) ⟨sl, ob⟩) : ([.val ⟨.list (ns.map PyData.int), .rd, false⟩, .val ⟨.int (k : Nat), .fz, l2⟩] : List Hd).length = 2 ∧ Wp (callD F_law_cell ⟨sl, ob⟩ [.val ⟨.list (ns.map PyData.int), .rd, false⟩, .val ⟨.int (k : Nat), .fz, l2⟩]) E P := by
  refine ⟨rfl, wp_callD (args_cons (lk_f rfl) (args_cons (lk_f rfl) args_nil)) rfl (cell_ok k l2 ob) (fun _ _ _ z => False.elim z) ?_⟩
  rintro w as ob' ⟨r, rfl, rfl, rfl⟩
  exact h r
theorem AllI.nil : AllI [] := fun _ m => by cases m
theorem AllI.snoc {ds : List PyData} (h : AllI ds) (i : Int) : AllI (ds ++ [.int i]) := fun d m => by
  rcases List.mem_append.mp m with m | m
  · exact h d m
  · rw [List.mem_singleton.mp m]
    exact ⟨i, rfl⟩
theorem m_app {ds : List PyData} {d : PyData} (h : ds.length < 100000) : mAppend ds [d] = some (.none, ds ++ [d]) := by
  show (if _ then _ else _) = _
  rw [if_pos h]
theorem g_pow {i j : Int} {t u : Sh} {l l' : Bool} (h : bPow i j = true) : gInt bPow (fun i j => i ^ j.toNat) ⟨.int i, t, l⟩ ⟨.int j, u, l'⟩ = some (.f (.int (i ^ j.toNat))) := by
  show (if bPow i j = true then _ else _) = _
  rw [if_pos h]
theorem digits_ok (ns : List Int) (lo hi : Nat) (hh : hi ≤ 1000) (hl : lo ≤ hi) (ob : List Ob1) : Spc F_law_digits [⟨.list (ns.map PyData.int), .rd, false⟩, ⟨.int (lo : Nat), .fz, false⟩, ⟨.int (hi : Nat), .fz, false⟩] ob D0 fun w as ob' => ∃ ds, AllI ds ∧ w = ⟨.list ds, .ls .fz, false⟩ ∧ as = [none, none, none] ∧ ob' = ob := by
  refine spc (s := ⟨[some ⟨.list (ns.map PyData.int), .rd, false⟩, some ⟨.int (lo : Nat), .fz, false⟩, some ⟨.int (hi : Nat), .fz, false⟩, none, none, none, none, none], ob⟩) rfl rfl ?_
  walk_at "ev"
  refine ⟨by decide, ?_⟩
  walk_at "ev"
  refine ws_for (fun k s => ∃ ds a b c d, s = ⟨[some ⟨.list (ns.map PyData.int), .rd, false⟩, some ⟨.int (lo : Nat), .fz, false⟩, some ⟨.int (hi : Nat), .fz, false⟩, some ⟨.list ds, .ls .fz, false⟩, a, b, c, d], ob⟩ ∧ jk a = true ∧ jk b = true ∧ jk c = true ∧ jk d = true ∧ AllI ds ∧ ds.length ≤ 60 * k) (wi_rng2 ?_)
  walk_at "ev"
  refine ⟨_, _, _, _, _, _, rfl, ?_, ?_, ?_, ?_, ?_⟩
  · simp [okRg]; omega
  · simp [okRg]; omega
  · exact ⟨[], none, none, none, none, rfl, rfl, rfl, rfl, rfl, AllI.nil, Nat.le_refl _⟩
  · rintro k s d hk ⟨ds, a, b, c, d', rfl, ja, jb, jc, jd, ai, le⟩
    obtain ⟨rfl, lk⟩ := intsR_at2 hk
    have lk : k < hi - lo := by omega
    have eN : (lo : Int) + (k : Int) = ((lo + k : Nat) : Int) := by omega
    rw [eN]
    walk_at "ev"
    refine wp_cell fun i => ?_
    walk_at "ev"
    refine ⟨fun h => ?_, fun h => ?_⟩
    · walk_at "ev"
      walk_at "evm"
      case ze => exact g_mulL (by decide) (by decide)
      walk_at "ev"
      walk_at "evm"
      case ze => exact g_pow (by decide)
      walk_at "ev"

      refine ⟨fun h => ?_, fun h => ?_⟩
      · walk_at "ev"
        refine ws_for (fun j s => ∃ ds i a, s = ⟨[some ⟨.list (ns.map PyData.int), .rd, false⟩, some ⟨.int (lo : Nat), .fz, false⟩, some ⟨.int (hi : Nat), .fz, false⟩, some ⟨.list ds, .ls .fz, false⟩, some ⟨.int ((lo + k : Nat) : Int), .fz, false⟩, some ⟨.int i, .fz, false⟩, a, d'], ob⟩ ∧ jk a = true ∧ AllI ds ∧ ds.length ≤ 60 * k + j) (wi_rng1 ?_)
        walk_at "ev"
        refine ⟨_, _, _, rfl, rfl, ?_, ?_, ?_⟩
        · exact ⟨_, _, _, rfl, jc, ai, le⟩
        · rintro j s d hj ⟨ds, i, a, rfl, ja, ai, le⟩
          obtain ⟨rfl, lj⟩ := intsR_at2 hj
          have lj : j < 60 := lj
          walk_at "ev"
          refine ⟨fun h => ?_, fun h => ?_⟩
          · walk_at "ev"
            refine wb_mk rfl rfl ?_
            walk_at "ev"
            walk_at "evw"
            case zm => exact m_app (by omega)
            case z2 => walk_at "evs"
            walk_at "ev"
            walk_at "evm"
            case ze => exact g_div (by decide) (by decide)
            walk_at "ev"
            exact ⟨_, _, _, rfl, rfl, ai.snoc _, by simp; omega⟩
          · walk_at "ev"
            exact ⟨_, _, _, rfl, rfl, ai, by omega⟩
        · rintro s ⟨ds, i, a, rfl, ja, ai, le⟩
          exact ⟨_, _, _, _, _, rfl, rfl, rfl, ja, jd, ai, le⟩
      · walk_at "ev"
        walk_at "evm"
        case ze => exact g_mulR (by decide) (by decide)
        walk_at "ev"
        walk_at "evm"
        case ze => exact g_mulR (by decide) (by decide)
        walk_at "ev"
        refine wb_mk rfl rfl ?_
        walk_at "ev"
        refine ws_for (fun j s => ∃ ds a i2, s = ⟨[some ⟨.list (ns.map PyData.int), .rd, false⟩, some ⟨.int (lo : Nat), .fz, false⟩, some ⟨.int (hi : Nat), .fz, false⟩, some ⟨.list ds, .ls .fz, false⟩, some ⟨.int ((lo + k : Nat) : Int), .fz, false⟩, some ⟨.int (1 - 2 * i), .fz, false⟩, a, some ⟨.int i2, .fz, false⟩], ob⟩ ∧ jk a = true ∧ AllI ds ∧ ds.length ≤ 60 * k + j) (wi_rng1 ?_)
        walk_at "ev"
        refine ⟨_, _, _, rfl, rfl, ?_, ?_, ?_⟩
        · exact ⟨_, _, _, rfl, jc, ai, le⟩
        · rintro j s d hj ⟨ds, a, i2, rfl, ja, ai, le⟩
          obtain ⟨rfl, lj⟩ := intsR_at2 hj
          have lj : j < 12 := lj
          walk_at "ev"
          walk_at "evm"
          case ze => exact g_mulR (by decide) (by decide)
          walk_at "ev"
          walk_at "evm"
          case ze => exact g_mulL (by decide) (by decide)
          walk_at "ev"
          refine wb_mk rfl rfl ?_
          walk_at "ev"
          walk_at "evm"
          case ze => exact g_div (by decide) (by decide)
          walk_at "ev"
          refine wb_mk rfl rfl ?_
          walk_at "ev"
          walk_at "evw"
          case zm => exact m_app (by omega)
          case z2 => walk_at "evs"
          exact ⟨_, _, _, rfl, rfl, ai.snoc _, by simp; omega⟩
        · rintro s ⟨ds, a, i2, rfl, ja, ai, le⟩
          exact ⟨_, _, _, _, _, rfl, rfl, rfl, ja, rfl, ai, by simp [intsR_len] at le; omega⟩
    · walk_at "ev"
      walk_at "evm"
      case ze => exact g_pow (by decide)
      walk_at "ev"

      refine ⟨fun h => ?_, fun h => ?_⟩
      · walk_at "ev"
        refine ws_for (fun j s => ∃ ds i a, s = ⟨[some ⟨.list (ns.map PyData.int), .rd, false⟩, some ⟨.int (lo : Nat), .fz, false⟩, some ⟨.int (hi : Nat), .fz, false⟩, some ⟨.list ds, .ls .fz, false⟩, some ⟨.int ((lo + k : Nat) : Int), .fz, false⟩, some ⟨.int i, .fz, false⟩, a, d'], ob⟩ ∧ jk a = true ∧ AllI ds ∧ ds.length ≤ 60 * k + j) (wi_rng1 ?_)
        walk_at "ev"
        refine ⟨_, _, _, rfl, rfl, ?_, ?_, ?_⟩
        · exact ⟨_, _, _, rfl, jc, ai, le⟩
        · rintro j s d hj ⟨ds, i, a, rfl, ja, ai, le⟩
          obtain ⟨rfl, lj⟩ := intsR_at2 hj
          have lj : j < 60 := lj
          walk_at "ev"
          refine ⟨fun h => ?_, fun h => ?_⟩
          · walk_at "ev"
            refine wb_mk rfl rfl ?_
            walk_at "ev"
            walk_at "evw"
            case zm => exact m_app (by omega)
            case z2 => walk_at "evs"
            walk_at "ev"
            walk_at "evm"
            case ze => exact g_div (by decide) (by decide)
            walk_at "ev"
            exact ⟨_, _, _, rfl, rfl, ai.snoc _, by simp; omega⟩
          · walk_at "ev"
            exact ⟨_, _, _, rfl, rfl, ai, by omega⟩
        · rintro s ⟨ds, i, a, rfl, ja, ai, le⟩
          exact ⟨_, _, _, _, _, rfl, rfl, rfl, ja, jd, ai, le⟩
      · walk_at "ev"
        walk_at "evm"
        case ze => exact g_mulR (by decide) (by decide)
        walk_at "ev"
        walk_at "evm"
        case ze => exact g_mulR (by decide) (by decide)
        walk_at "ev"
        refine wb_mk rfl rfl ?_
        walk_at "ev"
        refine ws_for (fun j s => ∃ ds a i2, s = ⟨[some ⟨.list (ns.map PyData.int), .rd, false⟩, some ⟨.int (lo : Nat), .fz, false⟩, some ⟨.int (hi : Nat), .fz, false⟩, some ⟨.list ds, .ls .fz, false⟩, some ⟨.int ((lo + k : Nat) : Int), .fz, false⟩, some ⟨.int i, .fz, false⟩, a, some ⟨.int i2, .fz, false⟩], ob⟩ ∧ jk a = true ∧ AllI ds ∧ ds.length ≤ 60 * k + j) (wi_rng1 ?_)
        walk_at "ev"
        refine ⟨_, _, _, rfl, rfl, ?_, ?_, ?_⟩
        · exact ⟨_, _, _, rfl, jc, ai, le⟩
        · rintro j s d hj ⟨ds, a, i2, rfl, ja, ai, le⟩
          obtain ⟨rfl, lj⟩ := intsR_at2 hj
          have lj : j < 12 := lj
          walk_at "ev"
          walk_at "evm"
          case ze => exact g_mulR (by decide) (by decide)
          walk_at "ev"
          walk_at "evm"
          case ze => exact g_mulL (by decide) (by decide)
          walk_at "ev"
          refine wb_mk rfl rfl ?_
          walk_at "ev"
          walk_at "evm"
          case ze => exact g_div (by decide) (by decide)
          walk_at "ev"
          refine wb_mk rfl rfl ?_
          walk_at "ev"
          walk_at "evw"
          case zm => exact m_app (by omega)
          case z2 => walk_at "evs"
          exact ⟨_, _, _, rfl, rfl, ai.snoc _, by simp; omega⟩
        · rintro s ⟨ds, a, i2, rfl, ja, ai, le⟩
          exact ⟨_, _, _, _, _, rfl, rfl, rfl, ja, rfl, ai, by simp [intsR_len] at le; omega⟩
  · rintro s ⟨ds, a, b, c, d', rfl, ja, jb, jc, jd, ai, le⟩
    walk_at "ev"
    exact ⟨_, rfl, ds, ai, rfl, rfl, rfl⟩
end Z2
local macro_rules | `(tactic| walk_at "drw") => `(tactic|
  ((with_reducible refine Z2.wp_draw (ds := ?zd) (a := ?za) (l := ?zl) (sl' := ?zs) ?ze ?zh ?zm ?z2 ?_); (case ze => exact rfl); (case zh => assumption); (case zm => omega); (case z2 => walk_at "evs")))
namespace Z2
open Z PySem PySem.Spec PyProof.Rows L2 GxR
/-- a cell's value -/
def OkV (v : PyData) : Prop := v = .none ∨ ∃ i, v = .int i ∧ -100 ≤ i ∧ i ≤ 100
def OkC (c : PyData) : Prop := ∃ v, c = .tuple [v] ∧ OkV v
abbrev PR := Int × PyData
abbrev pD (p : PR) : PyData := .tuple [.int p.1, p.2]
structure OkP (ps : List PR) : Prop where
  nd : (ps.map (·.1)).Nodup
  ok : ∀ p ∈ ps, 0 ≤ p.1 ∧ p.1 ≤ 9 ∧ OkC p.2
  le : ps.length ≤ 20
theorem value_ok {ds : List PyData} {l l2 : Bool} (hd : AllI ds) (a : Nat) (ob : List Ob1) : Spc F_law_value [⟨bxD ds a, .ls .fz, l⟩, ⟨.str "integer", .fz, l2⟩] ob D0 fun w as ob' => ∃ v a', OkV v ∧ w = .f v ∧ as = [some ⟨bxD ds a', .ls .fz, true⟩, none] ∧ ob' = ob := by
  refine spc (s := ⟨[some ⟨bxD ds a, .ls .fz, true⟩, some ⟨.str "integer", .fz, false⟩], ob⟩) rfl rfl ?_
  walk_at "ev"
  walk_at "drw"
  intro r r0 r1
  walk_at "ev"
  refine ⟨fun h => ?_, fun h => ?_⟩
  · walk_at "ev"
    exact ⟨_, rfl, _, _, Or.inl rfl, rfl, rfl, rfl⟩
  · walk_at "ev"
    refine ⟨fun h => absurd h (by decide), fun h => ?_⟩
    walk_at "ev"
    walk_at "drw"
    intro x x0 x1
    walk_at "ev"
    walk_at "drw"
    intro y y0 y1
    walk_at "ev"
    walk_at "drw"
    intro z z0 z1
    walk_at "ev"
    refine ⟨Nat.le_of_ble_eq_true rfl, ?_⟩
    walk_at "ev"
    walk_at "drw"
    intro i i0 i1
    have : i = 0 ∨ i = 1 ∨ i = 2 := by omega
    rcases this with rfl | rfl | rfl
    · walk_at "ev"
      exact ⟨_, rfl, _, _, Or.inr ⟨_, rfl, by omega, by omega⟩, rfl, rfl, rfl⟩
    · walk_at "ev"
      exact ⟨_, rfl, _, _, Or.inr ⟨_, rfl, by omega, by omega⟩, rfl, rfl, rfl⟩
    · walk_at "ev"
      exact ⟨_, rfl, _, _, Or.inr ⟨_, rfl, by omega, by omega⟩, rfl, rfl, rfl⟩
theorem wp_value {ds : List PyData} {l l2 : Bool} {a b : Nat} {ob : List Ob1} {sl : List (Option Vl)} {E : Xn → Sta → Prop} {P : Hd → Sta → Prop} (e : sl[b]? = some (some ⟨bxD ds a, .ls .fz, l⟩)) (hd : AllI ds) (h : ∀ v a', OkV v → ∀ sl', sl.set b (some ⟨bxD ds a', .ls .fz, l⟩) = sl' → P (.val (.f v)) ⟨sl', ob⟩) : ([.slot b, .val ⟨.str "integer", .fz, l2⟩] : List Hd).length = 2 ∧ Wp (callD F_law_value ⟨sl, ob⟩ [.slot b, .val ⟨.str "integer", .fz, l2⟩]) E P := by
  have o := own_at (ob := ob) e rfl
  refine ⟨rfl, wp_callD (args := [⟨bxD ds a, .ls .fz, l⟩, ⟨.str "integer", .fz, l2⟩]) (args_cons (lk_s e rfl) (args_cons (lk_f rfl) args_nil)) ?_ (value_ok hd a ob) (fun _ _ _ z => False.elim z) ?_⟩
  · unfold lentS
    rw [o]
    rfl
  · rintro w as ob' ⟨v, a', r1, rfl, rfl, rfl⟩
    unfold backS
    rw [o]
    exact h v a' r1 _ rfl
def fst0 : PyData → PyData
  | .tuple (x :: _) => x
  | _ => .none
theorem inV_ints (x : Int) : ∀ is : List Int, inV (.int x) (is.map V.int) = decide (x ∈ is)
  | [] => rfl
  | i :: is => by
    show (eqV (.int i) (.int x) || inV (.int x) (is.map V.int)) = _
    rw [inV_ints x is]
    show (i == x || decide (x ∈ is)) = _
    by_cases h : i = x
    · subst h
      simp
    · have h' : ¬ x = i := fun z => h z.symm
      have e : (i == x) = false := by simpa using h
      rw [e]
      simp [h']
theorem fst0_map (ps : List PR) : (ps.map pD).map fst0 = (ps.map (·.1)).map PyData.int := by
  rw [List.map_map, List.map_map]
  rfl
theorem flat_ints (is : List Int) : (is.map PyData.int).all flatD = true := by
  rw [List.all_eq_true]
  intro x hx
  obtain ⟨i, _, rfl⟩ := List.mem_map.mp hx
  rfl
theorem val_ints (is : List Int) : (is.map PyData.int).map valD = is.map V.int := by
  rw [List.map_map]
  rfl
theorem g_ninI {x : Int} {is : List Int} {t u : Sh} {l l' : Bool} (ht : rdItems t = true) : gNin2 ⟨.int x, u, l'⟩ ⟨.list (is.map PyData.int), t, l⟩ = some (.f (.bool (!decide (x ∈ is)))) := by
  rw [g_ninL ht rfl (flat_ints is), val_ints]
  show some (Vl.f (.bool (!inV (.int x) _))) = _
  rw [inV_ints]
theorem g_inI {x : Int} {is : List Int} {t u : Sh} {l l' : Bool} (ht : rdItems t = true) : gIn2 ⟨.int x, u, l'⟩ ⟨.list (is.map PyData.int), t, l⟩ = some (.f (.bool (decide (x ∈ is)))) := by
  rw [g_inL ht rfl (flat_ints is), val_ints]
  show some (Vl.f (.bool (inV (.int x) _))) = _
  rw [inV_ints]
theorem len_map {α β : Type} {f : α → β} {l : List α} : (l.map f).length = l.length := List.length_map ..
theorem pairs_ok {ds : List PyData} {l l2 : Bool} (hd : AllI ds) (a : Nat) (ob : List Ob1) : Spc F_law_pairs [⟨bxD ds a, .ls .fz, l⟩, ⟨.int 7, .fz, l2⟩] ob D0 fun w as ob' => ∃ ps a', OkP ps ∧ w = .f (.tuple (ps.map pD)) ∧ as = [some ⟨bxD ds a', .ls .fz, true⟩, none] ∧ ob' = ob := by
  refine spc (s := ⟨[some ⟨bxD ds a, .ls .fz, true⟩, some ⟨.int 7, .fz, false⟩, none, none, none, none], ob⟩) rfl rfl ?_
  walk_at "ev"
  refine ⟨Nat.le_of_ble_eq_true rfl, ?_⟩
  walk_at "ev"
  refine ws_for (fun k s => ∃ ps a x y, s = ⟨[some ⟨bxD ds a, .ls .fz, true⟩, some ⟨.int 7, .fz, false⟩, some ⟨.list (ps.map pD), .ls .fz, false⟩, x, y, none], ob⟩ ∧ jk x = true ∧ jk y = true ∧ OkP ps ∧ ps.length ≤ k) (wi_rng1 ?_)
  walk_at "ev"
  walk_at "drw"
  intro r r0 r1
  walk_at "ev"
  refine ⟨_, _, _, rfl, ?_, ?_, ?_, ?_⟩
  · simp [okRg]; omega
  · exact ⟨[], _, _, _, rfl, rfl, rfl, ⟨List.nodup_nil, fun _ m => (List.not_mem_nil m).elim, Nat.zero_le _⟩, Nat.le_refl _⟩
  · rintro k s d hk ⟨ps, a, x, y, rfl, jx, jy, ok, le⟩
    obtain ⟨rfl, lk⟩ := intsR_at2 hk
    have lk : k < 8 := by omega
    walk_at "ev"
    walk_at "drw"
    intro v v0 v1
    walk_at "ev"
    have le2 := ok.le
    refine' Z.wp_lcN Z2.fst0 ?o1 ?o2 ?o3 ?o4 ?o5 ?_
    case o1 => exact rfl
    case o2 => walk_at "evs"
    case o3 => exact rfl
    case o4 => (simp only [List.length_map]; omega)
    case o5 =>
      intro d hd
      obtain ⟨p, _, rfl⟩ := List.mem_map.mp hd
      walk_at "ev"
      exact ⟨rfl, rfl⟩
    rw [Z2.fst0_map]
    walk_at "evm"
    case ze => exact g_ninI rfl
    walk_at "ev"
    refine ⟨fun h => ?_, fun h => ?_⟩
    · have nm : 1 + v ∉ ps.map (·.1) := by simpa using h
      walk_at "ev"
      refine' Z2.wp_value ?o1 hd ?_
      case o1 => exact rfl
      intro c a' hc sl' es
      (try dsimp only [List.set] at es)
      subst es
      walk_at "ev"
      refine ⟨Nat.le_of_ble_eq_true rfl, ?_⟩
      walk_at "ev"
      refine ⟨Nat.le_of_ble_eq_true rfl, ?_⟩
      walk_at "ev"
      walk_at "evw"
      case zm => exact m_app (by rw [List.length_map]; omega)
      case z2 => walk_at "evs"
      refine ⟨ps ++ [(1 + v, .tuple [c])], _, _, _, by rw [List.map_append]; rfl, rfl, rfl, ⟨?_, ?_, ?_⟩, ?_⟩
      · rw [List.map_append]
        exact List.nodup_append.mpr ⟨ok.nd, List.nodup_cons.mpr ⟨List.not_mem_nil, List.nodup_nil⟩, fun x hx y hy e => by
          rw [List.map_cons, List.map_nil, List.mem_singleton] at hy
          subst hy
          subst e
          exact nm hx⟩
      · intro p hp
        rcases List.mem_append.mp hp with hp | hp
        · exact ok.ok p hp
        · rw [List.mem_singleton.mp hp]
          exact ⟨by dsimp only; omega, by dsimp only; omega, c, rfl, hc⟩
      · rw [List.length_append, List.length_singleton]
        omega
      · rw [List.length_append, List.length_singleton]
        omega
    · walk_at "ev"
      exact ⟨ps, _, _, _, rfl, rfl, rfl, ok, by omega⟩
  · rintro s ⟨ps, a, x, y, rfl, jx, jy, ok, le⟩
    walk_at "ev"
    refine wb_mk (args_cons (lk_s rfl rfl) args_nil) rfl ?_
    exact ⟨_, rfl, ps, _, ok, rfl, rfl, rfl⟩
end Z2
local macro_rules | `(tactic| walk_at "drw") => `(tactic|
  ((with_reducible refine Z2.wp_draw (ds := ?zd) (a := ?za) (l := ?zl) (sl' := ?zs) ?ze ?zh ?zm ?z2 ?_); (case ze => exact rfl); (case zh => assumption); (case zm => omega); (case z2 => walk_at "evs")))
namespace Z2
open Z PySem PySem.Spec PyProof.Rows L2 GxR
theorem OkP.perm {ps qs : List PR} (h : OkP ps) (p : qs.Perm ps) : OkP qs :=
  ⟨(p.map _).nodup_iff.mpr h.nd, fun x hx => h.ok x (p.mem_iff.mp hx), by rw [p.length_eq]; exact h.le⟩
theorem OkP.sub {ps qs : List PR} (h : OkP ps) (p : qs.Sublist ps) : OkP qs :=
  ⟨(p.map _).nodup h.nd, fun x hx => h.ok x (p.subset hx), Nat.le_trans p.length_le h.le⟩
theorem ins_perm {α : Type} (l : List α) (i : Nat) (x : α) : (l.take i ++ [x] ++ l.drop i).Perm (x :: l) := by
  have h : (l.take i ++ x :: l.drop i).Perm (x :: (l.take i ++ l.drop i)) := List.perm_middle
  rw [List.take_append_drop] at h
  rwa [List.append_assoc]
theorem ixN_at {n k : Nat} (h : k < n) : ixN n (k : Nat) = some k := by
  unfold ixN
  rw [if_pos (by omega), if_pos (by omega)]
  rfl
theorem m_popAt {ds : List PyData} {k : Nat} (h : k < ds.length) (h2 : ds.length < 1000000) : mPopAt ds [.int (k : Nat)] = some (ds[k], ds.eraseIdx k) := by
  unfold mPopAt
  dsimp only
  rw [ixN_at h]
  dsimp only
  rw [List.getElem?_eq_getElem h]
  dsimp only
  rw [if_pos (by omega)]
theorem m_ins {ds : List PyData} {k : Nat} {d : PyData} (h2 : ds.length < 100000) (h : k < 1000000) : mInsert ds [.int (k : Nat), d] = some (.none, ds.take k ++ [d] ++ ds.drop k) := by
  unfold mInsert
  dsimp only
  rw [if_pos (by omega)]
  rfl
theorem er_map {α β : Type} (f : α → β) : ∀ (l : List α) (j : Nat), (l.map f).eraseIdx j = (l.eraseIdx j).map f
  | [], _ => rfl
  | _ :: _, 0 => rfl
  | a :: l, j + 1 => congrArg (f a :: ·) (er_map f l j)
theorem er_perm {α : Type} : ∀ {l : List α} {j : Nat} (h : j < l.length), (l[j] :: l.eraseIdx j).Perm l
  | _ :: _, 0, _ => List.Perm.refl _
  | a :: l, j + 1, h => by
    have := er_perm (l := l) (j := j) (Nat.lt_of_succ_lt_succ h)
    exact (List.Perm.swap a _ _).trans (this.cons a)
theorem map_ins {α β : Type} (f : α → β) (l : List α) (i : Nat) (x : α) : (l.map f).take i ++ [f x] ++ (l.map f).drop i = (l.take i ++ [x] ++ l.drop i).map f := by
  rw [List.map_append, List.map_append, List.map_take, List.map_drop]
  rfl
theorem near_ok {ds : List PyData} {l : Bool} (hd : AllI ds) (a : Nat) {ps : List PR} (ok0 : OkP ps) (ob : List Ob1) : Spc F_law_near [⟨bxD ds a, .ls .fz, l⟩, ⟨.tuple (ps.map pD), .fz, false⟩] ob D0 fun w as ob' => ∃ qs a', OkP qs ∧ w = .f (.tuple (qs.map pD)) ∧ as = [some ⟨bxD ds a', .ls .fz, true⟩, none] ∧ ob' = ob := by
  refine spc (s := ⟨[some ⟨bxD ds a, .ls .fz, true⟩, some ⟨.tuple (ps.map pD), .fz, false⟩, none, none, none, none], ob⟩) rfl rfl ?_
  walk_at "ev"
  refine wb_mk (args_cons (lk_f rfl) args_nil) rfl ?_
  walk_at "ev"
  refine ws_for (fun k s => ∃ qs a x y z, s = ⟨[some ⟨bxD ds a, .ls .fz, true⟩, some ⟨.tuple (ps.map pD), .fz, false⟩, some ⟨.list (qs.map pD), .ls .fz, false⟩, x, y, z], ob⟩ ∧ jk x = true ∧ jk y = true ∧ jk z = true ∧ OkP qs) (wi_rng1 ?_)
  walk_at "ev"
  walk_at "drw"
  intro r r0 r1
  walk_at "ev"
  refine ⟨_, _, _, rfl, ?_, ?_, ?_, ?_⟩
  · simp [okRg]; omega
  · exact ⟨ps, _, _, _, _, rfl, rfl, rfl, rfl, ok0⟩
  · rintro k s d hk ⟨qs, a, x, y, z, rfl, jx, jy, jz, ok⟩
    obtain ⟨rfl, lk⟩ := intsR_at2 hk
    have le := ok.le
    walk_at "ev"
    refine wb_mk (args_cons (lk_s rfl rfl) args_nil) rfl ?_
    walk_at "ev"
    refine ⟨fun h => ?_, fun h => ?_⟩
    · have pos : 0 < qs.length := by simpa using h
      walk_at "ev"
      walk_at "drw"
      intro i i0 i1
      walk_at "ev"
      refine wb_mk (args_cons (lk_f rfl) args_nil) rfl ?_
      walk_at "ev"
      refine wb_mk (args_cons (lk_s rfl rfl) args_nil) rfl ?_
      walk_at "evm"
      case ze => exact g_mod (by rw [List.length_map]; omega)
      obtain ⟨j, ej⟩ : ∃ j : Nat, i % ((qs.map pD).length : Nat) = (j : Nat) := ⟨(i % ((qs.map pD).length : Nat)).toNat, by rw [List.length_map]; have := Int.emod_nonneg i (b := (qs.length : Int)) (by omega); omega⟩
      have lj : j < (qs.map pD).length := by
        have := Int.emod_lt_of_pos i (b := ((qs.map pD).length : Int)) (by rw [List.length_map]; omega)
        omega
      rw [ej]
      walk_at "ev"
      walk_at "evw"
      case zm => exact m_popAt lj (by rw [List.length_map]; omega)
      case z2 => walk_at "evs"
      have lj' : j < qs.length := by rwa [List.length_map] at lj
      rw [show (qs.map pD)[j] = pD qs[j] from List.getElem_map .., er_map]
      have pm : (qs[j] :: qs.eraseIdx j).Perm qs := er_perm lj'
      have le' : (qs.eraseIdx j).length ≤ 20 := Nat.le_trans (List.eraseIdx_sublist qs j).length_le le
      walk_at "ev"
      walk_at "drw"
      intro x x0 x1
      walk_at "ev"
      refine ⟨fun h => ?_, fun h => ?_⟩
      · walk_at "ev"
        walk_at "drw"
        intro y y0 y1
        walk_at "ev"
        refine wb_mk (args_cons (lk_f rfl) args_nil) rfl ?_
        walk_at "ev"
        refine wb_mk (args_cons (lk_s rfl rfl) args_nil) rfl ?_
        walk_at "ev"
        obtain ⟨j2, ej2⟩ : ∃ j2 : Nat, y % (((qs.eraseIdx j).map pD).length + 1 : Int) = (j2 : Nat) := ⟨(y % (((qs.eraseIdx j).map pD).length + 1 : Int)).toNat, by have := Int.emod_nonneg y (b := (((qs.eraseIdx j).map pD).length + 1 : Int)) (by omega); omega⟩
        have lj2 : j2 < 1000000 := by
          have := Int.emod_lt_of_pos y (b := (((qs.eraseIdx j).map pD).length + 1 : Int)) (by omega)
          rw [List.length_map] at this
          rw [List.length_map] at ej2
          omega
        rw [ej2]
        walk_at "ev"
        walk_at "evw"
        case zm => exact m_ins (by rw [List.length_map]; omega) lj2
        case z2 => walk_at "evs"
        exact ⟨(qs.eraseIdx j).take j2 ++ [qs[j]] ++ (qs.eraseIdx j).drop j2, _, _, _, _, by rw [← map_ins], rfl, rfl, rfl, ok.perm ((ins_perm _ _ _).trans pm)⟩
      · walk_at "ev"
        exact ⟨qs.eraseIdx j, _, _, _, _, rfl, rfl, rfl, rfl, ok.sub (List.eraseIdx_sublist _ _)⟩
    · walk_at "ev"
      exact ⟨_, _, _, _, _, rfl, rfl, jy, jz, ok⟩
  · rintro s ⟨qs, a, x, y, z, rfl, jx, jy, jz, ok⟩
    walk_at "ev"
    refine wb_mk (args_cons (lk_s rfl rfl) args_nil) rfl ?_
    exact ⟨_, rfl, qs, _, ok, rfl, rfl, rfl⟩
end Z2
local macro_rules | `(tactic| walk_at "drw") => `(tactic|
  ((with_reducible refine Z2.wp_draw (ds := ?zd) (a := ?za) (l := ?zl) (sl' := ?zs) ?ze ?zh ?zm ?z2 ?_); (case ze => exact rfl); (case zh => assumption); (case zm => omega); (case z2 => walk_at "evs")))
namespace Z2
open Z PySem PySem.Spec PyProof.Rows L2 GxR
abbrev outM (i : Nat) : PyData := .tuple [.str "out", .int (i : Nat)]
abbrev goM (i j : Nat) : PyData := .tuple [.str "go", .int (i : Nat), .int (j : Nat)]
abbrev celM (i : Nat) (c : PyData) : PyData := .tuple [.str "cells", .int (i : Nat), c]
abbrev inM (i : Nat) (p : PR) : PyData := .tuple [.str "in", .int (i : Nat), .int p.1, p.2]
abbrev insL (a : List PR) (i : Nat) (p : PR) : List PR := a.take i ++ [p] ++ a.drop i
theorem cut_to {ds : List PyData} (i : Nat) : Z.cutD ds none (some (i : Nat)) = ds.take i := by
  unfold Z.cutD
  rw [HT.sIx_none, HT.sIx_nat, List.drop_zero, Nat.sub_zero]
  by_cases h : i ≤ ds.length
  · rw [Nat.min_eq_left h]
  · rw [Nat.min_eq_right (by omega), List.take_length, List.take_of_length_le (by omega)]
theorem cut_from {ds : List PyData} (i : Nat) : Z.cutD ds (some (i : Nat)) none = ds.drop i := by
  unfold Z.cutD
  rw [HT.sIx_none, HT.sIx_nat]
  by_cases h : i ≤ ds.length
  · rw [Nat.min_eq_left h, List.take_of_length_le (by rw [List.length_drop]; omega)]
  · rw [Nat.min_eq_right (by omega), Nat.sub_self, List.take_zero, List.drop_eq_nil_of_le (by omega)]
theorem sl_to {ds : List PyData} {l : Bool} (i : Nat) : gSlice ⟨.list ds, .ls .fz, l⟩ none (some (i : Nat)) = some ⟨.list (ds.take i), .ls .fz, false⟩ := by
  show (if rdItems (.ls .fz) = true then some (⟨.list (Z.cutD ds none (some (i : Nat))), .ls .fz, false⟩ : Vl) else none) = _
  rw [if_pos (show rdItems (.ls .fz) = true from rfl), cut_to]
theorem sl_from {ds : List PyData} {l : Bool} (i : Nat) : gSlice ⟨.list ds, .ls .fz, l⟩ (some (i : Nat)) none = some ⟨.list (ds.drop i), .ls .fz, false⟩ := by
  show (if rdItems (.ls .fz) = true then some (⟨.list (Z.cutD ds (some (i : Nat)) none), .ls .fz, false⟩ : Vl) else none) = _
  rw [if_pos (show rdItems (.ls .fz) = true from rfl), cut_from]
theorem size_big : 100000 ≤ sizeLine := by decide
def bad (e : Xn) : Prop := e = ⟨"BadFit", none⟩
theorem with_ok {a : List PR} {l : Bool} (i : Nat) (p : PR) (hl : a.length ≤ 1000) (hi : i ≤ a.length) (hn : p.1 ∉ a.map (·.1)) (ob : List Ob1) : Spc F_with_pair [⟨.list (a.map pD), .ls .fz, l⟩, ⟨.int (i : Nat), .fz, false⟩, ⟨pD p, .fz, false⟩] ob D0 fun w as ob' => w = ⟨.list ((insL a i p).map pD), .ls .fz, false⟩ ∧ as = [some ⟨.list (a.map pD), .ls .fz, true⟩, none, none] ∧ ob' = ob := by
  refine spc (s := ⟨[some ⟨.list (a.map pD), .ls .fz, true⟩, some ⟨.int (i : Nat), .fz, false⟩, some ⟨pD p, .fz, false⟩, none, none], ob⟩) rfl rfl ?_
  have big := size_big
  walk_at "ev"
  refine ⟨fun h => ?_, fun h => absurd h (by simp)⟩
  walk_at "ev"
  refine wb_mk (args_cons (lk_s rfl rfl) args_nil) rfl ?_
  walk_at "ev"
  refine ⟨fun h => absurd h (by rw [List.length_map]; simp; omega), fun h => ?_⟩
  walk_at "ev"
  refine' Z.wp_lcN Z2.fst0 ?o1 ?o2 ?o3 ?o4 ?o5 ?_
  case o1 => exact rfl
  case o2 => walk_at "evs"
  case o3 => exact rfl
  case o4 => (simp only [List.length_map]; omega)
  case o5 =>
    intro d hd
    obtain ⟨p, _, rfl⟩ := List.mem_map.mp hd
    walk_at "ev"
    exact ⟨rfl, rfl⟩
  rw [Z2.fst0_map]
  walk_at "evm"
  case ze => exact g_inI rfl
  walk_at "ev"
  refine ⟨fun h => absurd h (by simpa using hn), fun h => ?_⟩
  walk_at "ev"
  refine wo_part ?_
  walk_at "ev"
  refine ⟨_, _, _, lk_f rfl, _, _, lk_s rfl rfl, sl_to i, ?_⟩
  walk_at "ev"
  refine ⟨Nat.le_of_ble_eq_true rfl, ?_⟩
  walk_at "evm"
  case ze => exact g_addL rfl rfl (by simp only [List.length_take, List.length_map, List.length_cons, List.length_nil]; omega)
  walk_at "ev"
  refine wo_part ?_
  walk_at "ev"
  refine ⟨_, _, _, lk_f rfl, ?_⟩
  walk_at "ev"
  refine ⟨_, _, lk_s rfl rfl, sl_from i, ?_⟩
  walk_at "evm"
  case ze => exact g_addL rfl rfl (by simp only [List.length_append, List.length_drop, List.length_take, List.length_map, List.length_cons, List.length_nil]; omega)
  exact ⟨_, rfl, by rw [← map_ins], rfl, rfl⟩
theorem with_bad {a : List PR} {l : Bool} (i : Int) (p : PR) (hl : a.length ≤ 1000) (hb : ¬ (0 ≤ i ∧ i ≤ a.length) ∨ p.1 ∈ a.map (·.1)) (ob : List Ob1) : Spc F_with_pair [⟨.list (a.map pD), .ls .fz, l⟩, ⟨.int i, .fz, false⟩, ⟨pD p, .fz, false⟩] ob (fun e as ob' => bad e ∧ as = [some ⟨.list (a.map pD), .ls .fz, true⟩, none, none] ∧ ob' = ob) fun w as ob' => False := by
  refine spc (s := ⟨[some ⟨.list (a.map pD), .ls .fz, true⟩, some ⟨.int i, .fz, false⟩, some ⟨pD p, .fz, false⟩, none, none], ob⟩) rfl rfl ?_
  have big := size_big
  walk_at "ev"
  refine ⟨fun h1 => ?_, fun h1 => ?_⟩
  · walk_at "ev"
    refine wb_mk (args_cons (lk_s rfl rfl) args_nil) rfl ?_
    walk_at "ev"
    refine ⟨fun h => ?_, fun h => ?_⟩
    · walk_at "ev"
      refine ⟨fun _ => ?_, fun h => by cases h⟩
      walk_at "ev"
      exact ⟨rfl, rfl, rfl⟩
    · walk_at "ev"
      refine' Z.wp_lcN Z2.fst0 ?o1 ?o2 ?o3 ?o4 ?o5 ?_
      case o1 => exact rfl
      case o2 => walk_at "evs"
      case o3 => exact rfl
      case o4 => (simp only [List.length_map]; omega)
      case o5 =>
        intro d hd
        obtain ⟨p, _, rfl⟩ := List.mem_map.mp hd
        walk_at "ev"
        exact ⟨rfl, rfl⟩
      rw [Z2.fst0_map]
      walk_at "evm"
      case ze => exact g_inI rfl
      walk_at "ev"
      refine ⟨fun h => ?_, fun h2 => ?_⟩
      · walk_at "ev"
        exact ⟨rfl, rfl, rfl⟩
      · rw [List.length_map] at h
        have h1 : 0 ≤ i := of_decide_eq_true h1
        have h : i ≤ a.length := by simpa using h
        have h2 : p.1 ∉ a.map (·.1) := of_decide_eq_false h2
        rcases hb with hb | hb
        · exact (hb ⟨h1, h⟩).elim
        · exact (h2 hb).elim
  · walk_at "ev"
    refine ⟨fun _ => ?_, fun h => by cases h⟩
    walk_at "ev"
    refine ⟨fun _ => ?_, fun h => by cases h⟩
    walk_at "ev"
    exact ⟨rfl, rfl, rfl⟩
end Z2
local macro_rules | `(tactic| walk_at "drw") => `(tactic|
  ((with_reducible refine Z2.wp_draw (ds := ?zd) (a := ?za) (l := ?zl) (sl' := ?zs) ?ze ?zh ?zm ?z2 ?_); (case ze => exact rfl); (case zh => assumption); (case zm => omega); (case z2 => walk_at "evs")))
namespace Z2
open Z PySem PySem.Spec PyProof.Rows L2 GxR
inductive Mv | out (i : Int) | go (i j : Int) | cel (i : Int) (c : PyData) | ins (i : Int) (p : PR)
def mvD : Mv → PyData
  | .out i => .tuple [.str "out", .int i]
  | .go i j => .tuple [.str "go", .int i, .int j]
  | .cel i c => .tuple [.str "cells", .int i, c]
  | .ins i p => .tuple [.str "in", .int i, .int p.1, p.2]
def withR (a : List PR) (i : Int) (p : PR) : Option (List PR) := if (0 ≤ i ∧ i ≤ a.length) ∧ p.1 ∉ a.map (·.1) then some (insL a i.toNat p) else none
def atR (a : List PR) (i : Int) : Option PR := if 0 ≤ i ∧ i < a.length then a[i.toNat]? else none
def beh (a : List PR) : Mv → Option (List PR)
  | .out i => (atR a i).map fun _ => a.eraseIdx i.toNat
  | .go i j => (atR a i).bind fun p => withR (a.eraseIdx i.toNat) j p
  | .cel i c => (atR a i).bind fun p => withR (a.eraseIdx i.toNat) i (p.1, c)
  | .ins i p => withR a i p
abbrev rowsV (a : List PR) (l : Bool) : Vl := ⟨.list (a.map pD), .ls .fz, l⟩
theorem with_all {a : List PR} {l : Bool} (i : Int) (p : PR) (hl : a.length ≤ 1000) (ob : List Ob1) : Spc F_with_pair [rowsV a l, ⟨.int i, .fz, false⟩, ⟨pD p, .fz, false⟩] ob (fun e as ob' => withR a i p = none ∧ bad e ∧ as = [some (rowsV a true), none, none] ∧ ob' = ob) fun w as ob' => ∃ b, withR a i p = some b ∧ w = rowsV b false ∧ as = [some (rowsV a true), none, none] ∧ ob' = ob := by
  by_cases h : (0 ≤ i ∧ i ≤ a.length) ∧ p.1 ∉ a.map (·.1)
  · obtain ⟨k, rfl⟩ : ∃ k : Nat, i = k := ⟨i.toNat, by omega⟩
    refine ⟨wd_mono (with_ok k p hl (by omega) h.2 ob).run (fun _ _ _ z => False.elim z) fun w as ob' z => ⟨_, ?_, z⟩⟩
    unfold withR
    rw [if_pos h]
    rfl
  · refine ⟨wd_mono (with_bad i p hl ?_ ob).run (fun _ _ _ z => ⟨?_, z⟩) fun w as ob' z => False.elim z⟩
    · by_cases h2 : 0 ≤ i ∧ i ≤ a.length
      · by_cases h3 : p.1 ∈ a.map (·.1)
        · exact Or.inr h3
        · exact (h ⟨h2, h3⟩).elim
      · exact Or.inl h2
    · unfold withR
      rw [if_neg h]
theorem set_id {α : Type} {l : List α} {b : Nat} {x : α} (h : l[b]? = some x) : l.set b x = l := by
  obtain ⟨lt, e⟩ := List.getElem?_eq_some_iff.mp h
  rw [← e, List.set_getElem_self]
theorem wp_with {a : List PR} {l : Bool} {i : Int} {p : PR} {b : Nat} {ob : List Ob1} {sl : List (Option Vl)} {E : Xn → Sta → Prop} {P : Hd → Sta → Prop} (e : sl[b]? = some (some (rowsV a l))) (hl : a.length ≤ 1000) (hE : withR a i p = none → E ⟨"BadFit", none⟩ ⟨sl, ob⟩) (hP : ∀ c, withR a i p = some c → P (.val (rowsV c false)) ⟨sl, ob⟩) : ([.slot b, .val ⟨.int i, .fz, false⟩, .val ⟨pD p, .fz, false⟩] : List Hd).length = 3 ∧ Wp (callD F_with_pair ⟨sl, ob⟩ [.slot b, .val ⟨.int i, .fz, false⟩, .val ⟨pD p, .fz, false⟩]) E P := by
  have o := own_at (ob := ob) e rfl
  have bk : backS ⟨sl, ob⟩ [.slot b, .val ⟨.int i, .fz, false⟩, .val ⟨pD p, .fz, false⟩] [some (rowsV a true), none, none] = ⟨sl, ob⟩ := by
    unfold backS
    rw [o]
    dsimp only [backS, Option.map]
    rw [set_id e]
  refine ⟨rfl, wp_callD (args := [rowsV a l, ⟨.int i, .fz, false⟩, ⟨pD p, .fz, false⟩]) (args_cons (lk_s e rfl) (args_cons (lk_f rfl) (args_cons (lk_f rfl) args_nil))) ?_ (with_all i p hl ob) ?_ ?_⟩
  · unfold lentS
    rw [o]
    rfl
  · rintro x as ob' ⟨n, hb, rfl, rfl⟩
    rw [bk]
    unfold bad at hb
    rw [hb]
    exact hE n
  · rintro w as ob' ⟨c, ec, rfl, rfl, rfl⟩
    rw [bk]
    exact hP c ec
theorem behind_ok {a : List PR} {l : Bool} (m : Mv) (hl : a.length ≤ 1000) (ob : List Ob1) : Spc F_behind_move [rowsV a l, ⟨mvD m, .fz, false⟩] ob (fun e as ob' => beh a m = none ∧ bad e ∧ as = [some (rowsV a true), none] ∧ ob' = ob) fun w as ob' => ∃ b, beh a m = some b ∧ w = rowsV b false ∧ as = [some (rowsV a true), none] ∧ ob' = ob := by
  cases m with
  | ins i p =>
    refine spc (s := ⟨[some (rowsV a true), some ⟨mvD (.ins i p), .fz, false⟩, none, none, none, none], ob⟩) rfl rfl ?_
    walk_at "ev"
    refine ws_par ?_
    walk_at "ev"
    refine ⟨_, _, rfl, rfl, rfl, ?_⟩
    walk_at "ev"
    refine ⟨fun _ => ?_, fun h => absurd h (by decide)⟩
    walk_at "ev"
    refine ⟨Nat.le_of_ble_eq_true rfl, ?_⟩
    walk_at "ev"
    refine wp_with (p := p) rfl hl (fun n => ⟨n, rfl, rfl, rfl⟩) fun c ec => ⟨_, rfl, c, ec, rfl, rfl, rfl⟩
  | out i =>
    refine spc (s := ⟨[some (rowsV a true), some ⟨mvD (.out i), .fz, false⟩, none, none, none, none], ob⟩) rfl rfl ?_
    have big := size_big
    walk_at "ev"
    refine ws_par ?_
    walk_at "ev"
    refine ⟨_, _, rfl, rfl, rfl, ?_⟩
    walk_at "ev"
    refine ⟨fun h => absurd h (by decide), fun _ => ?_⟩
    walk_at "ev"
    refine ⟨fun h1 => ?_, fun h1 => ?_⟩
    · walk_at "ev"
      refine wb_mk (args_cons (lk_s rfl rfl) args_nil) rfl ?_
      walk_at "ev"
      refine ⟨fun h => ?_, fun h => ?_⟩
      · walk_at "ev"
        have h2 : ¬ i < a.length := by simpa using h
        exact ⟨by show ((atR a i).map fun _ => a.eraseIdx i.toNat) = none; rw [show atR a i = none from if_neg (by omega)]; rfl, rfl, rfl, rfl⟩
      · walk_at "ev"
        have h1 : 0 ≤ i := of_decide_eq_true h1
        have h2 : i < a.length := by simpa using h
        obtain ⟨k, rfl⟩ : ∃ k : Nat, i = k := ⟨i.toNat, by omega⟩
        have lk : k < a.length := by omega
        have ea : atR a k = some a[k] := by
          unfold atR
          rw [if_pos (by omega)]
          exact List.getElem?_eq_getElem lk
        walk_at "evm"
        case ze => exact g_ixL rfl (atI_nat (by rw [List.getElem?_map, List.getElem?_eq_getElem lk]; rfl))
        walk_at "ev"
        refine wo_part ?_
        walk_at "ev"
        refine ⟨_, _, _, lk_f rfl, _, _, lk_s rfl rfl, sl_to k, ?_⟩
        walk_at "ev"
        refine wo_part ?_
        walk_at "ev"
        refine ⟨_, _, _, lk_f rfl, ?_⟩
        walk_at "ev"
        refine ⟨_, _, lk_s rfl rfl, sl_from (k + 1), ?_⟩
        walk_at "evm"
        case ze => exact g_addL rfl rfl (by simp only [List.length_take, List.length_drop, List.length_map]; omega)
        rw [show (a.map pD).take k ++ (a.map pD).drop (k + 1) = (a.eraseIdx k).map pD by rw [← er_map, List.eraseIdx_eq_take_drop_succ]]
        walk_at "ev"
        refine ⟨fun _ => ?_, fun h => absurd h (by decide)⟩
        walk_at "ev"
        exact ⟨_, rfl, a.eraseIdx k, by show (atR a k).map _ = _; rw [ea]; rfl, rfl, rfl, rfl⟩
    · walk_at "ev"
      refine ⟨fun _ => ?_, fun h => by cases h⟩
      walk_at "ev"
      have h1 : ¬ 0 ≤ i := of_decide_eq_false h1
      exact ⟨by show ((atR a i).map fun _ => a.eraseIdx i.toNat) = none; rw [show atR a i = none from if_neg (by omega)]; rfl, rfl, rfl, rfl⟩
  | go i j =>
    refine spc (s := ⟨[some (rowsV a true), some ⟨mvD (.go i j), .fz, false⟩, none, none, none, none], ob⟩) rfl rfl ?_
    have big := size_big
    walk_at "ev"
    refine ws_par ?_
    walk_at "ev"
    refine ⟨_, _, rfl, rfl, rfl, ?_⟩
    walk_at "ev"
    refine ⟨fun h => absurd h (by decide), fun _ => ?_⟩
    walk_at "ev"
    refine ⟨fun h1 => ?_, fun h1 => ?_⟩
    · walk_at "ev"
      refine wb_mk (args_cons (lk_s rfl rfl) args_nil) rfl ?_
      walk_at "ev"
      refine ⟨fun h => ?_, fun h => ?_⟩
      · walk_at "ev"
        have h2 : ¬ i < a.length := by simpa using h
        exact ⟨by show ((atR a i).bind fun p => withR (a.eraseIdx i.toNat) j p) = none; rw [show atR a i = none from if_neg (by omega)]; rfl, rfl, rfl, rfl⟩
      · walk_at "ev"
        have h1 : 0 ≤ i := of_decide_eq_true h1
        have h2 : i < a.length := by simpa using h
        obtain ⟨k, rfl⟩ : ∃ k : Nat, i = k := ⟨i.toNat, by omega⟩
        have lk : k < a.length := by omega
        have ea : atR a k = some a[k] := by
          unfold atR
          rw [if_pos (by omega)]
          exact List.getElem?_eq_getElem lk
        walk_at "evm"
        case ze => exact g_ixL rfl (atI_nat (by rw [List.getElem?_map, List.getElem?_eq_getElem lk]; rfl))
        walk_at "ev"
        refine wo_part ?_
        walk_at "ev"
        refine ⟨_, _, _, lk_f rfl, _, _, lk_s rfl rfl, sl_to k, ?_⟩
        walk_at "ev"
        refine wo_part ?_
        walk_at "ev"
        refine ⟨_, _, _, lk_f rfl, ?_⟩
        walk_at "ev"
        refine ⟨_, _, lk_s rfl rfl, sl_from (k + 1), ?_⟩
        walk_at "evm"
        case ze => exact g_addL rfl rfl (by simp only [List.length_take, List.length_drop, List.length_map]; omega)
        rw [show (a.map pD).take k ++ (a.map pD).drop (k + 1) = (a.eraseIdx k).map pD by rw [← er_map, List.eraseIdx_eq_take_drop_succ]]
        walk_at "ev"
        have le3 : (a.eraseIdx k).length ≤ 1000 := Nat.le_trans (List.eraseIdx_sublist a k).length_le hl
        refine ⟨fun h => absurd h (by decide), fun _ => ?_⟩
        walk_at "ev"
        refine ⟨fun h => absurd h (by decide), fun _ => ?_⟩
        walk_at "ev"
        walk_at "evm"
        case ze => exact g_ixT (ds := [.str "go", .int (k : Nat), .int j]) (d := .int j) rfl
        walk_at "ev"
        walk_at "evm"
        case ze => exact g_ixL rfl (atI_nat (show (a.map pD)[k]? = some (pD a[k]) by rw [List.getElem?_map, List.getElem?_eq_getElem lk]; rfl))
        walk_at "ev"
        refine wp_with (a := a.eraseIdx k) (p := a[k]) rfl le3 (fun n => ⟨by show (atR a k).bind _ = _; rw [ea]; exact n, rfl, rfl, rfl⟩) fun b eb => ⟨_, rfl, b, by show (atR a k).bind _ = _; rw [ea]; exact eb, rfl, rfl, rfl⟩
    · walk_at "ev"
      refine ⟨fun _ => ?_, fun h => by cases h⟩
      walk_at "ev"
      have h1 : ¬ 0 ≤ i := of_decide_eq_false h1
      exact ⟨by show ((atR a i).bind fun p => withR (a.eraseIdx i.toNat) j p) = none; rw [show atR a i = none from if_neg (by omega)]; rfl, rfl, rfl, rfl⟩
  | cel i c =>
    refine spc (s := ⟨[some (rowsV a true), some ⟨mvD (.cel i c), .fz, false⟩, none, none, none, none], ob⟩) rfl rfl ?_
    have big := size_big
    walk_at "ev"
    refine ws_par ?_
    walk_at "ev"
    refine ⟨_, _, rfl, rfl, rfl, ?_⟩
    walk_at "ev"
    refine ⟨fun h => absurd h (by decide), fun _ => ?_⟩
    walk_at "ev"
    refine ⟨fun h1 => ?_, fun h1 => ?_⟩
    · walk_at "ev"
      refine wb_mk (args_cons (lk_s rfl rfl) args_nil) rfl ?_
      walk_at "ev"
      refine ⟨fun h => ?_, fun h => ?_⟩
      · walk_at "ev"
        have h2 : ¬ i < a.length := by simpa using h
        exact ⟨by show ((atR a i).bind fun p => withR (a.eraseIdx i.toNat) i (p.1, c)) = none; rw [show atR a i = none from if_neg (by omega)]; rfl, rfl, rfl, rfl⟩
      · walk_at "ev"
        have h1 : 0 ≤ i := of_decide_eq_true h1
        have h2 : i < a.length := by simpa using h
        obtain ⟨k, rfl⟩ : ∃ k : Nat, i = k := ⟨i.toNat, by omega⟩
        have lk : k < a.length := by omega
        have ea : atR a k = some a[k] := by
          unfold atR
          rw [if_pos (by omega)]
          exact List.getElem?_eq_getElem lk
        walk_at "evm"
        case ze => exact g_ixL rfl (atI_nat (by rw [List.getElem?_map, List.getElem?_eq_getElem lk]; rfl))
        walk_at "ev"
        refine wo_part ?_
        walk_at "ev"
        refine ⟨_, _, _, lk_f rfl, _, _, lk_s rfl rfl, sl_to k, ?_⟩
        walk_at "ev"
        refine wo_part ?_
        walk_at "ev"
        refine ⟨_, _, _, lk_f rfl, ?_⟩
        walk_at "ev"
        refine ⟨_, _, lk_s rfl rfl, sl_from (k + 1), ?_⟩
        walk_at "evm"
        case ze => exact g_addL rfl rfl (by simp only [List.length_take, List.length_drop, List.length_map]; omega)
        rw [show (a.map pD).take k ++ (a.map pD).drop (k + 1) = (a.eraseIdx k).map pD by rw [← er_map, List.eraseIdx_eq_take_drop_succ]]
        walk_at "ev"
        have le3 : (a.eraseIdx k).length ≤ 1000 := Nat.le_trans (List.eraseIdx_sublist a k).length_le hl
        refine ⟨fun h => absurd h (by decide), fun _ => ?_⟩
        walk_at "ev"
        refine ⟨fun _ => ?_, fun h => absurd h (by decide)⟩
        walk_at "ev"
        refine ⟨Nat.le_of_ble_eq_true rfl, ?_⟩
        walk_at "ev"
        refine wp_with (a := a.eraseIdx k) (p := (a[k].1, c)) rfl le3 (fun n => ⟨by show (atR a k).bind _ = _; rw [ea]; exact n, rfl, rfl, rfl⟩) fun b eb => ⟨_, rfl, b, by show (atR a k).bind _ = _; rw [ea]; exact eb, rfl, rfl, rfl⟩
    · walk_at "ev"
      refine ⟨fun _ => ?_, fun h => by cases h⟩
      walk_at "ev"
      have h1 : ¬ 0 ≤ i := of_decide_eq_false h1
      exact ⟨by show ((atR a i).bind fun p => withR (a.eraseIdx i.toNat) i (p.1, c)) = none; rw [show atR a i = none from if_neg (by omega)]; rfl, rfl, rfl, rfl⟩
theorem wp_behind {a : List PR} {l : Bool} {m : Mv} {b : Nat} {ob : List Ob1} {sl : List (Option Vl)} {E : Xn → Sta → Prop} {P : Hd → Sta → Prop} (e : sl[b]? = some (some (rowsV a l))) (hl : a.length ≤ 1000) (hE : beh a m = none → E ⟨"BadFit", none⟩ ⟨sl, ob⟩) (hP : ∀ c, beh a m = some c → P (.val (rowsV c false)) ⟨sl, ob⟩) : ([.slot b, .val ⟨mvD m, .fz, false⟩] : List Hd).length = 2 ∧ Wp (callD F_behind_move ⟨sl, ob⟩ [.slot b, .val ⟨mvD m, .fz, false⟩]) E P := by
  have o := own_at (ob := ob) e rfl
  have bk : backS ⟨sl, ob⟩ [.slot b, .val ⟨mvD m, .fz, false⟩] [some (rowsV a true), none] = ⟨sl, ob⟩ := by
    unfold backS
    rw [o]
    dsimp only [backS, Option.map]
    rw [set_id e]
  refine ⟨rfl, wp_callD (args := [rowsV a l, ⟨mvD m, .fz, false⟩]) (args_cons (lk_s e rfl) (args_cons (lk_f rfl) args_nil)) ?_ (behind_ok m hl ob) ?_ ?_⟩
  · unfold lentS
    rw [o]
    rfl
  · rintro x as ob' ⟨n, hb, rfl, rfl⟩
    rw [bk]
    unfold bad at hb
    rw [hb]
    exact hE n
  · rintro w as ob' ⟨c, ec, rfl, rfl, rfl⟩
    rw [bk]
    exact hP c ec
def runs (a : List PR) : List Mv → Option (List PR)
  | [] => some a
  | m :: ms => (beh a m).bind fun b => runs b ms
theorem insL_len (a : List PR) (i : Nat) (p : PR) : (insL a i p).length = a.length + 1 := by
  rw [insL, (ins_perm a i p).length_eq]
  rfl
theorem withR_len {a b : List PR} {i : Int} {p : PR} (h : withR a i p = some b) : b.length = a.length + 1 := by
  unfold withR at h
  split at h
  · cases h
    exact insL_len _ _ _
  · cases h
theorem beh_len {a b : List PR} {m : Mv} (h : beh a m = some b) : b.length ≤ a.length + 1 := by
  have er : ∀ i, (a.eraseIdx i).length ≤ a.length := fun i => (List.eraseIdx_sublist a i).length_le
  cases m with
  | ins i p => exact Nat.le_of_eq (withR_len h)
  | out i =>
    have h : (atR a i).map _ = some b := h
    obtain ⟨x, _, rfl⟩ := Option.map_eq_some_iff.mp h
    have := er i.toNat
    omega
  | go i j =>
    have h : (atR a i).bind _ = some b := h
    obtain ⟨x, _, h⟩ := Option.bind_eq_some_iff.mp h
    have := er i.toNat
    have := withR_len h
    omega
  | cel i c =>
    have h : (atR a i).bind _ = some b := h
    obtain ⟨x, _, h⟩ := Option.bind_eq_some_iff.mp h
    have := er i.toNat
    have := withR_len h
    omega
theorem moved_ok {a0 : List PR} {l : Bool} (ms : List Mv) (hl : a0.length + ms.length ≤ 1000) (ob : List Ob1) : Spc F_moved_by [⟨.tuple (a0.map pD), .fz, false⟩, ⟨.list (ms.map mvD), .ls .fz, l⟩] ob (fun e as ob' => runs a0 ms = none ∧ bad e ∧ as = [none, some ⟨.list (ms.map mvD), .ls .fz, true⟩] ∧ ob' = ob) fun w as ob' => ∃ b, runs a0 ms = some b ∧ w = .f (.tuple (b.map pD)) ∧ as = [none, some ⟨.list (ms.map mvD), .ls .fz, true⟩] ∧ ob' = ob := by
  refine spc (s := ⟨[some ⟨.tuple (a0.map pD), .fz, false⟩, some ⟨.list (ms.map mvD), .ls .fz, true⟩, none, none], ob⟩) rfl rfl ?_
  walk_at "ev"
  refine wb_mk (args_cons (lk_f rfl) args_nil) rfl ?_
  walk_at "ev"
  refine ws_forN (ds := ms.map mvD) (fun k s => ∃ a x, s = ⟨[some ⟨.tuple (a0.map pD), .fz, false⟩, some ⟨.list (ms.map mvD), .ls .fz, true⟩, some (rowsV a false), x], ob⟩ ∧ jk x = true ∧ a.length ≤ a0.length + k ∧ runs a (ms.drop k) = runs a0 ms) ?_ ?_ ?_ ?_
  · rintro k s ⟨a, x, rfl, _⟩
    exact ⟨true, rfl⟩
  · exact ⟨a0, none, rfl, rfl, Nat.le_refl _, rfl⟩
  · rintro k s d hk ⟨a, x, rfl, jx, le, er⟩
    rw [List.getElem?_map] at hk
    obtain ⟨m, hm, rfl⟩ := Option.map_eq_some_iff.mp hk
    obtain ⟨lt, rfl⟩ := List.getElem?_eq_some_iff.mp hm
    rw [List.drop_eq_getElem_cons lt] at er
    walk_at "ev"
    refine wp_behind rfl (by omega) (fun n => ?_) fun c ec => ?_
    · refine ⟨?_, rfl, rfl, rfl⟩
      rw [← er]
      show (beh a ms[k]).bind _ = none
      rw [n]
      rfl
    · walk_at "ev"
      refine ⟨c, _, rfl, rfl, by have := beh_len ec; omega, ?_⟩
      rw [← er]
      show _ = (beh a ms[k]).bind _
      rw [ec]
      rfl
  · rintro s ⟨a, x, rfl, jx, le, er⟩
    rw [List.length_map, List.drop_length] at er
    walk_at "ev"
    refine wb_mk (args_cons (lk_s rfl rfl) args_nil) rfl ?_
    exact ⟨_, rfl, a, er.symm, rfl, rfl, rfl⟩
end Z2
local macro_rules | `(tactic| walk_at "drw") => `(tactic|
  ((with_reducible refine Z2.wp_draw (ds := ?zd) (a := ?za) (l := ?zl) (sl' := ?zs) ?ze ?zh ?zm ?z2 ?_); (case ze => exact rfl); (case zh => assumption); (case zm => omega); (case z2 => walk_at "evs")))
namespace Z2
open Z PySem PySem.Spec PyProof.Rows L2 GxR
/-! dicts -/
theorem dPut_get (kvs : List (PyData × PyData)) (k : Key) (d : PyData) (q : Key) : dGet (dPut kvs k d) q = if q = k then some d else dGet kvs q := by
  unfold dPut
  split
  · rename_i h
    induction kvs with
    | nil => cases h
    | cons p kvs ih =>
      rw [List.map_cons]
      unfold dGet at ih ⊢
      rw [List.find?_cons, List.find?_cons]
      by_cases e : Z.keyOf p.1 = some k
      · rw [if_pos e]
        dsimp only
        by_cases eq : q = k
        · rw [eq, decide_eq_true e, if_pos rfl]
          rfl
        · have ne : ¬ Z.keyOf p.1 = some q := fun z => eq (Option.some.inj (z.symm.trans e))
          rw [decide_eq_false ne, if_neg eq]
          dsimp only
          clear ih h
          induction kvs with
          | nil => rfl
          | cons p2 kvs ih =>
            rw [List.map_cons, List.find?_cons, List.find?_cons]
            by_cases e2 : Z.keyOf p2.1 = some k
            · rw [if_pos e2]
              dsimp only
              have ne2 : ¬ Z.keyOf p2.1 = some q := fun z => eq (Option.some.inj (z.symm.trans e2))
              rw [decide_eq_false ne2]
              exact ih
            · rw [if_neg e2]
              cases decide (Z.keyOf p2.1 = some q) with
              | true => rfl
              | false => exact ih
      · rw [if_neg e]
        cases he : decide (Z.keyOf p.1 = some q) with
        | true =>
          have : q ≠ k := fun z => e (z ▸ of_decide_eq_true he)
          rw [if_neg this]
        | false =>
          refine ih ?_
          rw [List.any_cons, decide_eq_false e, Bool.false_or] at h
          exact h
  · rename_i h
    unfold dGet
    rw [List.find?_append]
    have nk : kvs.find? (fun (p : PyData × PyData) => decide (Z.keyOf p.1 = some k)) = none := by
      rw [List.find?_eq_none]
      intro p hp z
      exact h (List.any_eq_true.mpr ⟨p, hp, z⟩)
    by_cases eq : q = k
    · rw [if_pos eq, eq, nk]
      rw [Option.none_or, List.find?_cons, decide_eq_true (kD_keyOf k)]
      rfl
    · rw [if_neg eq]
      have : [(kD k, d)].find? (fun (p : PyData × PyData) => decide (Z.keyOf p.1 = some q)) = none := by
        rw [List.find?_cons]
        have : ¬ Z.keyOf (kD k) = some q := fun z => eq (Option.some.inj (((kD_keyOf k).symm.trans z)).symm)
        rw [decide_eq_false this]
        rfl
      rw [this, Option.or_none]
theorem dcD_miss {f : PyData → Key × PyData} {q : Key} : ∀ {ds : List PyData} {acc : List (PyData × PyData)}, (∀ d ∈ ds, (f d).1 ≠ q) → dGet (dcD f ds acc) q = dGet acc q
  | [], _, _ => rfl
  | d :: ds, acc, h => by
    show dGet (dcD f ds (dPut acc (f d).1 (f d).2)) q = _
    rw [dcD_miss fun d hd => h d (List.mem_cons_of_mem _ hd), dPut_get, if_neg fun z => h d List.mem_cons_self z.symm]
theorem dcD_hit {f : PyData → Key × PyData} : ∀ {ds : List PyData} {acc : List (PyData × PyData)} {d : PyData}, (ds.map fun d => (f d).1).Nodup → d ∈ ds → dGet (dcD f ds acc) (f d).1 = some (f d).2
  | x :: ds, acc, d, nd, m => by
    rw [List.map_cons, List.nodup_cons] at nd
    show dGet (dcD f ds (dPut acc (f x).1 (f x).2)) (f d).1 = _
    rcases List.mem_cons.mp m with rfl | m
    · rw [dcD_miss fun y hy z => nd.1 (List.mem_map.mpr ⟨y, hy, z⟩), dPut_get, if_pos rfl]
    · exact dcD_hit nd.2 m
/-- ids to yes, ids to cells -/
def kYes : PyData → Key × PyData
  | .tuple [.int r, _] => (.inl r, .bool true)
  | _ => (.inl 0, .none)
def kCel : PyData → Key × PyData
  | .tuple [.int r, c] => (.inl r, c)
  | _ => (.inl 0, .none)
def idsL (a : List PR) : List Int := a.map (·.1)
theorem keys_nd {f : PyData → Key × PyData} {a : List PR} (hf : ∀ p : PR, (f (pD p)).1 = .inl p.1) (h : (idsL a).Nodup) : ((a.map pD).map fun d => (f d).1).Nodup := by
  have : ((a.map pD).map fun d => (f d).1) = (idsL a).map Sum.inl := by
    unfold idsL
    rw [List.map_map, List.map_map]
    exact List.map_congr_left fun p _ => hf p
  rw [this]
  exact List.Pairwise.map _ (fun x y n z => n (Sum.inl.inj z)) h
theorem cel_hit {a : List PR} {p : PR} (h : (idsL a).Nodup) (m : p ∈ a) : dGet (dcD kCel (a.map pD) []) (.inl p.1) = some p.2 :=
  dcD_hit (f := kCel) (d := pD p) (keys_nd (fun _ => rfl) h) (List.mem_map.mpr ⟨p, m, rfl⟩)
theorem cel_miss {a : List PR} {r : Int} (h : r ∉ idsL a) : dGet (dcD kCel (a.map pD) []) (.inl r) = none :=
  dcD_miss fun d hd z => by
    obtain ⟨p, m, rfl⟩ := List.mem_map.mp hd
    exact h (List.mem_map.mpr ⟨p, m, Sum.inl.inj z⟩)
theorem yes_hit {a : List PR} {r : Int} (h : (idsL a).Nodup) (m : r ∈ idsL a) : dGet (dcD kYes (a.map pD) []) (.inl r) = some (.bool true) := by
  obtain ⟨p, mp, rfl⟩ := List.mem_map.mp m
  exact dcD_hit (f := kYes) (d := pD p) (keys_nd (fun _ => rfl) h) (List.mem_map.mpr ⟨p, mp, rfl⟩)
theorem yes_miss {a : List PR} {r : Int} (h : r ∉ idsL a) : dGet (dcD kYes (a.map pD) []) (.inl r) = none :=
  dcD_miss fun d hd z => by
    obtain ⟨p, m, rfl⟩ := List.mem_map.mp hd
    exact h (List.mem_map.mpr ⟨p, m, Sum.inl.inj z⟩)
/-! which rows go -/
def outsP (K : List Int) : Nat → List PR → List Mv → List Mv × List PR
  | 0, now, out => (out, now)
  | i + 1, now, out => match now[i]? with
    | some p => if p.1 ∈ K then outsP K i now out else outsP K i (now.eraseIdx i) (out ++ [.out (i : Nat)])
    | none => outsP K i now out
theorem outsP_succ {K : List Int} {i : Nat} {now : List PR} {out : List Mv} (li : i < now.length) : outsP K (i + 1) now out = if now[i].1 ∈ K then outsP K i now out else outsP K i (now.eraseIdx i) (out ++ [.out (i : Nat)]) := by
  rw [outsP, List.getElem?_eq_getElem li]
theorem kept_dec {b : List PR} (hb : (idsL b).Nodup) (r : Int) : (dGet (dcD kYes (b.map pD) []) (.inl r)).isSome = decide (r ∈ idsL b) := by
  by_cases h : r ∈ idsL b
  · rw [yes_hit hb h, decide_eq_true h]
    rfl
  · rw [yes_miss h, decide_eq_false h]
    rfl
theorem outs_ok {a b : List PR} {l : Bool} (ha : a.length ≤ 100) (hb : (idsL b).Nodup) (ob : List Ob1) : Spc F_outs [⟨.tuple (a.map pD), .fz, false⟩, ⟨.dict (dcD kYes (b.map pD) []), .mp .fz, l⟩] ob D0 fun w as ob' => w = ⟨.tuple [.list ((outsP (idsL b) a.length a []).1.map mvD), .list ((idsL (outsP (idsL b) a.length a []).2).map PyData.int)], .mt (.ls .fz), false⟩ ∧ as = [none, some ⟨.dict (dcD kYes (b.map pD) []), .mp .fz, true⟩] ∧ ob' = ob := by
  refine spc (s := ⟨[some ⟨.tuple (a.map pD), .fz, false⟩, some ⟨.dict (dcD kYes (b.map pD) []), .mp .fz, true⟩, none, none, none, none, none], ob⟩) rfl rfl ?_
  walk_at "ev"
  refine ⟨Nat.le_of_ble_eq_true rfl, ?_⟩
  walk_at "ev"
  refine' Z.wp_lcC Z2.fst0 ?o1 ?o2 ?o6 ?o7 ?o3 ?o4 ?o5 ?_
  case o1 => exact rfl
  case o2 => exact rfl
  case o6 => exact rfl
  case o7 => exact rfl
  case o3 => walk_at "evs"
  case o4 => (simp only [List.length_map]; omega)
  case o5 =>
    intro d hd
    obtain ⟨p, _, rfl⟩ := List.mem_map.mp hd
    walk_at "ev"
    exact ⟨rfl, rfl⟩
  rw [Z2.fst0_map]
  walk_at "ev"
  refine ws_for (fun k s => ∃ now out x, s = ⟨[some ⟨.tuple (a.map pD), .fz, false⟩, some ⟨.dict (dcD kYes (b.map pD) []), .mp .fz, true⟩, some ⟨.list (out.map mvD), .ls .fz, false⟩, some ⟨.list ((idsL now).map PyData.int), .ls .fz, false⟩, x, none, none], ob⟩ ∧ jk x = true ∧ outsP (idsL b) (a.length - k) now out = outsP (idsL b) a.length a [] ∧ a.length - k ≤ now.length ∧ now.length ≤ a.length ∧ out.length ≤ k) (wi_rev1 ?_)
  walk_at "ev"
  refine wb_mk (args_cons (lk_f rfl) args_nil) rfl ?_
  refine ⟨_, _, _, lk_f rfl, ?_, ?_, ?_, ?_⟩
  · rw [List.length_map]
    simp [okRg]
    omega
  · exact ⟨a, [], none, rfl, rfl, rfl, Nat.le_refl _, Nat.le_refl _, Nat.le_refl _⟩
  · rintro k s d hk ⟨now, out, x, rfl, jx, er, le, le2, le3⟩
    have lk : k < a.length := by
      obtain ⟨lt, _⟩ := List.getElem?_eq_some_iff.mp hk
      rw [downR_len, List.length_map] at lt
      omega
    have e := downR_at hk
    obtain ⟨i, ei⟩ : ∃ i, a.length - k = i + 1 := ⟨a.length - k - 1, by omega⟩
    have e2 : d = .int (i : Nat) := by
      rw [e, List.length_map]
      congr 1
      omega
    subst e2
    have li : i < now.length := by omega
    rw [ei, outsP_succ li] at er
    walk_at "ev"
    walk_at "evm"
    case ze => exact g_ixL rfl (atI_nat (show ((idsL now).map PyData.int)[i]? = some (.int now[i].1) by unfold idsL; rw [List.getElem?_map, List.getElem?_map, List.getElem?_eq_getElem li]; rfl))
    walk_at "ev"
    walk_at "evm"
    case ze => exact g_ninD (q := .inl now[i].1) rfl
    rw [kept_dec hb]
    walk_at "ev"
    refine ⟨fun h => ?_, fun h => ?_⟩
    · have h : now[i].1 ∉ idsL b := by simpa using h
      rw [if_neg h] at er
      walk_at "ev"
      refine ⟨Nat.le_of_ble_eq_true rfl, ?_⟩
      walk_at "ev"
      walk_at "evw"
      case zm => exact Z2.m_app (by (try simp only [List.length_map, List.length_append, List.length_cons, List.length_nil]); omega)
      case z2 => walk_at "evs"
      walk_at "ev"
      walk_at "evw"
      case zm => exact m_popAt (by unfold idsL; rw [List.length_map, List.length_map]; exact li) (by unfold idsL; rw [List.length_map, List.length_map]; omega)
      case z2 => walk_at "evs"
      refine ⟨now.eraseIdx i, out ++ [.out (i : Nat)], some ⟨.int (i : Nat), .fz, false⟩, ?_, rfl, ?_, ?_, ?_, ?_⟩
      · unfold idsL
        rw [← er_map, ← er_map, List.map_append]
        rfl
      · rw [show a.length - (k + 1) = i by omega]
        exact er
      · rw [List.length_eraseIdx_of_lt li]
        omega
      · exact Nat.le_trans (List.eraseIdx_sublist _ _).length_le le2
      · rw [List.length_append, List.length_singleton]
        omega
    · have h : now[i].1 ∈ idsL b := by simpa using h
      rw [if_pos h] at er
      walk_at "ev"
      exact ⟨now, out, _, rfl, rfl, by rw [show a.length - (k + 1) = i by omega]; exact er, by omega, le2, by omega⟩
  · rintro s ⟨now, out, x, rfl, jx, er, le, le2, le3⟩
    rw [downR_len, List.length_map] at er
    have z : a.length - ((a.length : Int)).toNat = 0 := by omega
    rw [z] at er
    have er : (out, now) = _ := er
    rw [← er]
    walk_at "ev"
    refine ws_retT2 rfl rfl rfl ?_
    exact ⟨_, rfl, rfl, rfl, rfl⟩
end Z2
local macro_rules | `(tactic| walk_at "drw") => `(tactic|
  ((with_reducible refine Z2.wp_draw (ds := ?zd) (a := ?za) (l := ?zl) (sl' := ?zs) ?ze ?zh ?zm ?z2 ?_); (case ze => exact rfl); (case zh => assumption); (case zm => omega); (case z2 => walk_at "evs")))
namespace Z2
open Z PySem PySem.Spec PyProof.Rows L2 GxR
def pos (r : Int) : List Int → Option Nat
  | [] => none
  | x :: xs => if x = r then some 0 else (pos r xs).map (· + 1)
theorem pos_cons {r x : Int} {xs : List Int} : pos r (x :: xs) = if x = r then some 0 else (pos r xs).map (· + 1) := rfl
theorem pos_in (r : Int) : ∀ is : List Int, posIn (.int r) (is.map V.int) = pos r is
  | [] => rfl
  | x :: xs => by
    show (if eqV (.int x) (.int r) = true then some 0 else (posIn (.int r) (xs.map V.int)).map (· + 1)) = _
    rw [pos_in r xs, pos_cons]
    by_cases e : x = r
    · subst e
      rw [if_pos rfl, if_pos (show eqV (.int x) (.int x) = true from by show (x == x) = true; simp)]
    · rw [if_neg e, if_neg (show ¬ eqV (.int x) (.int r) = true from by show ¬ (x == r) = true; simpa using e)]
theorem pos_none {r : Int} : ∀ {is : List Int}, r ∉ is → pos r is = none
  | [], _ => rfl
  | x :: xs, h => by
    have ne : x ≠ r := by
      rintro rfl
      exact h List.mem_cons_self
    rw [pos_cons, if_neg ne, pos_none fun z => h (List.mem_cons_of_mem _ z)]
    rfl
theorem pos_some {r : Int} : ∀ {is : List Int}, r ∈ is → ∃ j, pos r is = some j ∧ is[j]? = some r
  | x :: xs, h => by
    by_cases e : x = r
    · exact ⟨0, by rw [pos_cons, if_pos e], by rw [e]; rfl⟩
    · rcases List.mem_cons.mp h with h | h
      · exact (e h.symm).elim
      · obtain ⟨j, e1, e2⟩ := pos_some h
        exact ⟨j + 1, by rw [pos_cons, if_neg e, e1]; rfl, e2⟩
theorem pos_app {r : Int} {ys : List Int} : ∀ {xs : List Int}, r ∉ xs → pos r (xs ++ ys) = (pos r ys).map (· + xs.length)
  | [], _ => by simp
  | x :: xs, h => by
    have ne : x ≠ r := by
      rintro rfl
      exact h List.mem_cons_self
    rw [List.cons_append, pos_cons, if_neg ne, pos_app fun z => h (List.mem_cons_of_mem _ z)]
    cases pos r ys with
    | none => rfl
    | some j => rfl
def insP : List PR → Nat → List PR → List Mv
  | [], _, _ => []
  | p :: rest, k, tail => match pos p.1 (idsL tail) with
    | none => .ins (k : Nat) p :: insP rest (k + 1) tail
    | some j => (if j = 0 then [] else [.go ((k + j : Nat) : Int) (k : Nat)]) ++ ((match tail[j]? with
      | some q => if PyData.eqv q.2 p.2 = true then [] else [Mv.cel (k : Nat) p.2]
      | none => []) ++ insP rest (k + 1) (tail.eraseIdx j))
theorem eqv_ok {c d : PyData} (hc : OkC c) (hd : OkC d) : eqData c d = some (PyData.eqv c d) ∧ (PyData.eqv c d = true → c = d) := by
  obtain ⟨v, rfl, hv⟩ := hc
  obtain ⟨w, rfl, hw⟩ := hd
  rcases hv with rfl | ⟨i, rfl, _⟩ <;> rcases hw with rfl | ⟨j, rfl, _⟩
  · exact ⟨rfl, fun _ => rfl⟩
  · exact ⟨rfl, fun h => by cases h⟩
  · exact ⟨rfl, fun h => by cases h⟩
  · refine ⟨rfl, fun h => ?_⟩
    have : (i == j && true) = true := h
    simp at this
    rw [this]
/-- what is left of the old rows -/
structure TL (a b : List PR) (k : Nat) (tail : List PR) : Prop where
  nd : (idsL tail).Nodup
  mem : ∀ p, p ∈ tail ↔ p ∈ a ∧ p.1 ∈ idsL (b.drop k)
  le : tail.length ≤ 20
theorem TL.none {a b tail : List PR} {k : Nat} (h : TL a b k tail) (lk : k < b.length) (n : b[k].1 ∉ idsL a) : TL a b (k + 1) tail := by
  refine ⟨h.nd, fun p => ?_, h.le⟩
  rw [h.mem p, List.drop_eq_getElem_cons lk]
  constructor
  · rintro ⟨m, z⟩
    refine ⟨m, ?_⟩
    rcases List.mem_cons.mp z with z | z
    · have z : p.1 = b[k].1 := z
      exact (n (z ▸ List.mem_map.mpr ⟨p, m, rfl⟩)).elim
    · exact z
  · exact fun ⟨m, z⟩ => ⟨m, List.mem_cons_of_mem _ z⟩
theorem mem_erase {tail : List PR} (nd : (idsL tail).Nodup) {j : Nat} (lj : j < tail.length) (p : PR) : p ∈ tail.eraseIdx j ↔ p ∈ tail ∧ p.1 ≠ tail[j].1 := by
  induction tail generalizing j with
  | nil => cases lj
  | cons x tail ih =>
    have nd : (x.1 :: idsL tail).Nodup := nd
    rw [List.nodup_cons] at nd
    cases j with
    | zero =>
      show p ∈ tail ↔ p ∈ x :: tail ∧ p.1 ≠ x.1
      constructor
      · exact fun m => ⟨List.mem_cons_of_mem _ m, fun z => nd.1 (z ▸ List.mem_map.mpr ⟨p, m, rfl⟩)⟩
      · rintro ⟨m, z⟩
        rcases List.mem_cons.mp m with rfl | m
        · exact (z rfl).elim
        · exact m
    | succ j =>
      have lj2 : j < tail.length := Nat.lt_of_succ_lt_succ lj
      show p ∈ x :: tail.eraseIdx j ↔ p ∈ x :: tail ∧ p.1 ≠ tail[j].1
      rw [List.mem_cons, List.mem_cons, ih nd.2 lj2]
      constructor
      · rintro (rfl | m)
        · exact ⟨Or.inl rfl, fun z => nd.1 (z ▸ List.mem_map.mpr ⟨tail[j], List.getElem_mem lj2, rfl⟩)⟩
        · exact ⟨Or.inr m.1, m.2⟩
      · rintro ⟨rfl | m, z⟩
        · exact Or.inl rfl
        · exact Or.inr ⟨m, z⟩
theorem TL.some {a b tail : List PR} {k j : Nat} (h : TL a b k tail) (hb : (idsL b).Nodup) (lk : k < b.length) (lj : j < tail.length) (e : tail[j].1 = b[k].1) : TL a b (k + 1) (tail.eraseIdx j) := by
  have nb : b[k].1 ∉ idsL (b.drop (k + 1)) := by
    have : (idsL (b.drop k)).Nodup := ((List.drop_sublist k b).map _).nodup hb
    rw [List.drop_eq_getElem_cons lk] at this
    exact (List.nodup_cons.mp this).1
  refine ⟨((List.eraseIdx_sublist tail j).map _).nodup h.nd, fun p => ?_, Nat.le_trans (List.eraseIdx_sublist tail j).length_le h.le⟩
  rw [mem_erase h.nd lj, h.mem p, List.drop_eq_getElem_cons lk, e]
  constructor
  · rintro ⟨⟨m, z⟩, n⟩
    refine ⟨m, ?_⟩
    rcases List.mem_cons.mp z with z | z
    · exact (n z).elim
    · exact z
  · rintro ⟨m, z⟩
    exact ⟨⟨m, List.mem_cons_of_mem _ z⟩, fun y => nb (y ▸ z)⟩
theorem TL.ids {a b tail : List PR} {k : Nat} (h : TL a b k tail) (lk : k < b.length) : b[k].1 ∈ idsL tail ↔ b[k].1 ∈ idsL a := by
  constructor
  · intro m
    obtain ⟨p, mp, e⟩ := List.mem_map.mp m
    exact e ▸ List.mem_map.mpr ⟨p, ((h.mem p).mp mp).1, rfl⟩
  · intro m
    obtain ⟨p, mp, e⟩ := List.mem_map.mp m
    refine e ▸ List.mem_map.mpr ⟨p, (h.mem p).mpr ⟨mp, ?_⟩, rfl⟩
    rw [List.drop_eq_getElem_cons lk]
    exact e ▸ List.mem_cons_self
theorem take_new {α : Type} {D T : List α} {k : Nat} (e : D.length = k) (x : α) : (D ++ T).take k ++ [x] ++ (D ++ T).drop k = D ++ [x] ++ T := by
  subst e
  rw [List.take_left, List.drop_left]
theorem erase_app {α : Type} {D T : List α} {j : Nat} : (D ++ T).eraseIdx (D.length + j) = D ++ T.eraseIdx j := by
  induction D with
  | nil => simp
  | cons x D ih =>
    rw [List.length_cons, show D.length + 1 + j = (D.length + j) + 1 by omega]
    exact congrArg (x :: ·) ih
theorem ids_take {b : List PR} {k : Nat} (lk : k < b.length) : idsL (b.take (k + 1)) = idsL (b.take k) ++ [b[k].1] := by
  unfold idsL
  rw [List.take_succ, List.getElem?_eq_getElem lk, List.map_append]
  rfl
theorem ids_len {b : List PR} {k : Nat} (lk : k ≤ b.length) : (idsL (b.take k)).length = k := by
  unfold idsL
  rw [List.length_map, List.length_take]
  omega
theorem nin_take {b : List PR} (hb : (idsL b).Nodup) {k : Nat} (lk : k < b.length) : b[k].1 ∉ idsL (b.take k) := by
  have : (idsL (b.take (k + 1))).Nodup := ((List.take_sublist (k + 1) b).map _).nodup hb
  rw [ids_take lk] at this
  have := (List.nodup_append.mp this).2.2
  exact fun m => this _ m _ (List.mem_singleton.mpr rfl) rfl
end Z2
local macro_rules | `(tactic| walk_at "drw") => `(tactic|
  ((with_reducible refine Z2.wp_draw (ds := ?zd) (a := ?za) (l := ?zl) (sl' := ?zs) ?ze ?zh ?zm ?z2 ?_); (case ze => exact rfl); (case zh => assumption); (case zm => omega); (case z2 => walk_at "evs")))
namespace Z2
open Z PySem PySem.Spec PyProof.Rows L2 GxR
theorem outsP_spec {K : List Int} : ∀ (i : Nat) (now : List PR) (out : List Mv), (idsL now).Nodup → i ≤ now.length → (∀ q ∈ now.drop i, q.1 ∈ K) → (idsL (outsP K i now out).2).Nodup ∧ (∀ p, p ∈ (outsP K i now out).2 ↔ p ∈ now ∧ p.1 ∈ K) ∧ (outsP K i now out).2.length ≤ now.length ∧ (outsP K i now out).1.length ≤ out.length + i
  | 0, now, out, nd, _, h => ⟨nd, fun p => ⟨fun m => ⟨m, h p m⟩, fun m => m.1⟩, Nat.le_refl _, Nat.le_refl _⟩
  | i + 1, now, out, nd, le, h => by
    have li : i < now.length := by omega
    rw [outsP_succ li]
    split
    · rename_i hk
      refine (outsP_spec i now out nd (by omega) ?_).imp id (fun z => z.imp id fun z => z.imp id fun z => by omega)
      intro q hq
      rw [List.drop_eq_getElem_cons li] at hq
      rcases List.mem_cons.mp hq with rfl | hq
      · exact hk
      · exact h q hq
    · rename_i hk
      have z := outsP_spec (K := K) i (now.eraseIdx i) (out ++ [.out (i : Nat)]) (((List.eraseIdx_sublist now i).map _).nodup nd) (by rw [List.length_eraseIdx_of_lt li]; omega) (by
        intro q hq
        refine h q ?_
        rw [List.eraseIdx_eq_take_drop_succ, List.drop_append, List.drop_of_length_le (by rw [List.length_take]; omega), List.nil_append, List.length_take, Nat.min_eq_left (by omega), Nat.sub_self, List.drop_zero] at hq
        exact hq)
      refine ⟨z.1, fun p => ?_, Nat.le_trans z.2.2.1 (List.eraseIdx_sublist _ _).length_le, by have := z.2.2.2; rw [List.length_append, List.length_singleton] at this; omega⟩
      rw [z.2.1 p, mem_erase nd li]
      constructor
      · exact fun m => ⟨m.1.1, m.2⟩
      · exact fun m => ⟨⟨m.1, fun e => hk (e ▸ m.2)⟩, m.2⟩
theorem TL.start {a b : List PR} (ha : OkP a) : TL a b 0 (outsP (idsL b) a.length a []).2 := by
  have z := outsP_spec (K := idsL b) a.length a [] ha.nd (Nat.le_refl _) (by rw [List.drop_length]; exact fun q h => (List.not_mem_nil h).elim)
  exact ⟨z.1, z.2.1, Nat.le_trans z.2.2.1 ha.le⟩
theorem outs_len {a b : List PR} (ha : OkP a) : (outsP (idsL b) a.length a []).1.length ≤ 20 := by
  have z := outsP_spec (K := idsL b) a.length a [] ha.nd (Nat.le_refl _) (by rw [List.drop_length]; exact fun q h => (List.not_mem_nil h).elim)
  have := z.2.2.2
  have := ha.le
  simp at *
  omega
def allM (a b : List PR) : List Mv := (outsP (idsL b) a.length a []).1 ++ insP b 0 (outsP (idsL b) a.length a []).2
theorem insP_cons {b tail : List PR} {k : Nat} (lk : k < b.length) : insP (b.drop k) k tail = match pos b[k].1 (idsL tail) with
    | none => .ins (k : Nat) b[k] :: insP (b.drop (k + 1)) (k + 1) tail
    | some j => (if j = 0 then [] else [Mv.go ((k + j : Nat) : Int) (k : Nat)]) ++ ((match tail[j]? with
      | some q => if PyData.eqv q.2 b[k].2 = true then [] else [Mv.cel (k : Nat) b[k].2]
      | none => []) ++ insP (b.drop (k + 1)) (k + 1) (tail.eraseIdx j)) := by
  rw [List.drop_eq_getElem_cons lk]
  rfl
theorem g_index {r : Int} {is : List Int} {l : Bool} {j : Nat} (h : pos r is = some j) : gIndex ⟨.list (is.map PyData.int), .ls .fz, l⟩ [⟨.int r, .fz, false⟩] = some (.f (.int (j : Nat))) := by
  show (if rdItems (.ls .fz) = true ∧ flatD (.int r) = true ∧ (is.map PyData.int).all flatD = true then (posIn (.int r) ((is.map PyData.int).map valD)).map _ else none) = _
  rw [if_pos ⟨rfl, rfl, flat_ints is⟩, val_ints, pos_in, h]
  rfl
theorem moves_ok {a b : List PR} (ha : OkP a) (hb : OkP b) (ob : List Ob1) : Spc F_moves [⟨.tuple (a.map pD), .fz, false⟩, ⟨.tuple (b.map pD), .fz, false⟩] ob D0 fun w as ob' => w = ⟨.list ((allM a b).map mvD), .ls .fz, false⟩ ∧ as = [none, none] ∧ ob' = ob := by
  have la := ha.le
  have lb := hb.le
  refine spc (s := ⟨[some ⟨.tuple (a.map pD), .fz, false⟩, some ⟨.tuple (b.map pD), .fz, false⟩, none, none, none, none, none, none, none, none], ob⟩) rfl rfl ?_
  walk_at "ev"
  refine ws_asgT2 ?_
  walk_at "ev"
  refine wp_dc kYes ?_
  walk_at "ev"
  refine wg_some (a := (.tuple (b.map pD), _)) rfl ⟨b.map pD, rfl, ⟨[some ⟨.tuple (a.map pD), .fz, false⟩, some ⟨.tuple (b.map pD), .fz, false⟩, none, none, none, none, none, none, none, none], ob⟩, rfl, by rw [List.length_map]; omega, ?_, ?_⟩
  · intro d hd
    obtain ⟨p, _, rfl⟩ := List.mem_map.mp hd
    walk_at "ev"
    refine ⟨_, lk_f rfl, rfl, ?_⟩
    walk_at "ev"
    exact ⟨rfl, rfl⟩
  walk_at "ev"
  refine ⟨rfl, wp_callD (args_cons (lk_f rfl) (args_cons (lk_f rfl) args_nil)) rfl (outs_ok (by omega) hb.nd ob) (fun _ _ _ z => False.elim z) ?_⟩
  rintro w as ob' ⟨rfl, rfl, rfl⟩
  refine ⟨_, _, _, rfl, ?_⟩
  dsimp only [backS]
  walk_at "ev"
  refine wp_dc kCel ?_
  walk_at "ev"
  refine wg_some (a := (.tuple (a.map pD), _)) rfl ⟨a.map pD, rfl, _, (by walk_at "evs"), by rw [List.length_map]; omega, ?_, ?_⟩
  · intro d hd
    obtain ⟨p, _, rfl⟩ := List.mem_map.mp hd
    walk_at "ev"
    refine ⟨_, lk_f rfl, rfl, ?_⟩
    walk_at "ev"
    exact ⟨rfl, rfl⟩
  dsimp only [wipeS, wipeL, List.set]
  walk_at "ev"
  refine ws_for (fun k s => ∃ tail out x5 x6 x7 x8, s = ⟨[some ⟨.tuple (a.map pD), .fz, false⟩, some ⟨.tuple (b.map pD), .fz, false⟩, some ⟨.list (out.map mvD), .ls .fz, false⟩, some ⟨.list ((idsL (b.take k) ++ idsL tail).map PyData.int), .ls .fz, false⟩, some ⟨.dict (dcD kCel (a.map pD) []), .mp .fz, false⟩, x5, x6, x7, x8, none], ob'⟩ ∧ jk x5 = true ∧ jk x6 = true ∧ jk x7 = true ∧ jk x8 = true ∧ TL a b k tail ∧ out ++ insP (b.drop k) k tail = allM a b ∧ out.length ≤ 20 + 2 * k) (wi_enum ?_)
  walk_at "ev"
  refine ⟨_, _, rfl, rfl, ?_, ?_, ?_⟩
  · exact ⟨_, _, none, none, none, none, rfl, rfl, rfl, rfl, rfl, TL.start ha, rfl, by have := outs_len (b := b) ha; omega⟩
  · rintro k s d hk ⟨tail, out, x5, x6, x7, x8, rfl, j5, j6, j7, j8, tl, er, lo⟩
    obtain ⟨x, hx, rfl⟩ := enumF_at hk
    rw [List.getElem?_map] at hx
    obtain ⟨q, hq, rfl⟩ := Option.map_eq_some_iff.mp hx
    obtain ⟨lk, rfl⟩ := List.getElem?_eq_some_iff.mp hq
    rw [show 0 + k = k by omega]
    have lt := tl.le
    have lT : (idsL (b.take k) ++ idsL tail).length ≤ 100 := by
      rw [List.length_append, ids_len (by omega)]
      unfold idsL
      rw [List.length_map]
      omega
    have dl : (idsL (b.take k)).length = k := ids_len (by omega)
    rw [insP_cons lk] at er
    walk_at "ev"
    by_cases mem : b[k].1 ∈ idsL a
    · obtain ⟨j, ej, gj⟩ := pos_some ((tl.ids lk).mpr mem)
      have lj : j < tail.length := by
        have := (List.getElem?_eq_some_iff.mp gj).1
        unfold idsL at this
        rwa [List.length_map] at this
      have ej1 : tail[j].1 = b[k].1 := by
        unfold idsL at gj
        rw [List.getElem?_map, List.getElem?_eq_getElem lj] at gj
        exact Option.some.inj gj
      have tj : tail[j] ∈ a := ((tl.mem _).mp (List.getElem_mem lj)).1
      have hit : dGet (dcD kCel (a.map pD) []) (.inl b[k].1) = some tail[j].2 := by
        rw [← ej1]
        exact cel_hit ha.nd tj
      have tl' := tl.some hb.nd lk lj ej1
      rw [ej] at er
      dsimp only at er
      rw [List.getElem?_eq_getElem lj] at er
      dsimp only at er
      walk_at "evm"
      case ze => exact g_ninD (q := .inl b[k].1) rfl
      rw [hit]
      walk_at "ev"
      refine ⟨fun h => absurd h (by simp), fun _ => ?_⟩
      walk_at "ev"
      refine wp_mv ?_
      walk_at "ev"
      refine ⟨_, lk_s rfl rfl, rfl, ?_⟩
      walk_at "ev"
      have ep : pos b[k].1 (idsL (b.take k) ++ idsL tail) = some (k + j) := by
        rw [pos_app (nin_take hb.nd lk), ej, dl]
        show some (j + k) = _
        rw [Nat.add_comm]
      have oa : OkC tail[j].2 := (ha.ok _ tj).2.2
      have ob2 : OkC b[k].2 := (hb.ok _ (List.getElem_mem lk)).2.2
      have eqd := (eqv_ok oa ob2).1
      have lTj : k + j < (idsL (b.take k) ++ idsL tail).length := by
        rw [List.length_append, dl]
        unfold idsL
        rw [List.length_map]
        omega
      have erT : (idsL (b.take k) ++ idsL tail).eraseIdx (k + j) = idsL (b.take k) ++ idsL (tail.eraseIdx j) := by
        have := erase_app (D := idsL (b.take k)) (T := idsL tail) (j := j)
        rw [dl] at this
        rw [this]
        unfold idsL
        rw [er_map]
      have lT2 : (idsL (b.take k) ++ idsL (tail.eraseIdx j)).length ≤ 100 := by
        rw [← erT]
        exact Nat.le_trans (List.eraseIdx_sublist _ _).length_le lT
      have pop1 : mPopAt ((idsL (b.take k) ++ idsL tail).map PyData.int) [.int ((k + j : Nat) : Int)] = some (.int b[k].1, (idsL (b.take k) ++ idsL (tail.eraseIdx j)).map PyData.int) := by
        rw [m_popAt (by rw [List.length_map]; exact lTj) (by rw [List.length_map]; omega), er_map, erT, List.getElem_map]
        have : (idsL (b.take k) ++ idsL tail)[k + j] = b[k].1 := by
          rw [List.getElem_append_right (by omega)]
          have e : k + j - (idsL (b.take k)).length = j := by omega
          have := (List.getElem?_eq_some_iff.mp gj).2
          simp only [e]
          exact this
        rw [this]
      refine ⟨_, lk_s rfl rfl, wb_mk (args_cons (lk_f rfl) args_nil) (g_index ep) ?_⟩
      walk_at "ev"
      refine ⟨fun h => ?_, fun h => ?_⟩
      · have hj : j ≠ 0 := by
          rintro rfl
          simp at h
        rw [if_neg hj] at er
        walk_at "ev"
        refine ⟨Nat.le_of_ble_eq_true rfl, ?_⟩
        walk_at "ev"
        walk_at "evw"
        case zm => exact Z2.m_app (by (try simp only [List.length_map, List.length_append, List.length_cons, List.length_nil]); omega)
        case z2 => walk_at "evs"
        walk_at "ev"
        walk_at "evw"
        case zm => exact pop1
        case z2 => walk_at "evs"
        walk_at "ev"
        walk_at "evw"
        case zm => exact m_ins (by rw [List.length_map]; omega) (by omega)
        case z2 => walk_at "evs"
        rw [map_ins, take_new dl, ← ids_take lk]
        have eo : out.map mvD ++ [.tuple [.str "go", .int ((k + j : Nat) : Int), .int (k : Nat)]] = (out ++ [Mv.go ((k + j : Nat) : Int) (k : Nat)]).map mvD := by
          rw [List.map_append]
          rfl
        rw [eo]
        have er2 : (out ++ [Mv.go ((k + j : Nat) : Int) (k : Nat)]) ++ ((if PyData.eqv tail[j].2 b[k].2 = true then [] else [Mv.cel (k : Nat) b[k].2]) ++ insP (b.drop (k + 1)) (k + 1) (tail.eraseIdx j)) = allM a b := by
          rw [← er, List.append_assoc]
        have lo2 : (out ++ [Mv.go ((k + j : Nat) : Int) (k : Nat)]).length ≤ 20 + 2 * k + 1 := by
          rw [List.length_append, List.length_singleton]
          omega
        generalize out ++ [Mv.go ((k + j : Nat) : Int) (k : Nat)] = out1 at er2 lo2 ⊢
        walk_at "ev"
        walk_at "evm"
        case ze => exact g_ixD (q := .inl b[k].1) rfl hit
        walk_at "ev"
        walk_at "evm"
        case ze => exact g_neF rfl rfl eqd
        walk_at "ev"
        refine ⟨fun h => ?_, fun h => ?_⟩
        · have hn : ¬ PyData.eqv tail[j].2 b[k].2 = true := by simpa using h
          rw [if_neg hn] at er2
          walk_at "ev"
          refine ⟨Nat.le_of_ble_eq_true rfl, ?_⟩
          walk_at "ev"
          walk_at "evw"
          case zm => exact Z2.m_app (by (try simp only [List.length_map, List.length_append, List.length_cons, List.length_nil]); omega)
          case z2 => walk_at "evs"
          walk_at "ev"
          refine ⟨tail.eraseIdx j, out1 ++ [Mv.cel (k : Nat) b[k].2], some ⟨.int (k : Nat), .fz, false⟩, some ⟨.int b[k].1, .fz, false⟩, some ⟨b[k].2, .fz, false⟩, some ⟨.int ((k + j : Nat) : Int), .fz, false⟩, ?_, rfl, rfl, rfl, rfl, tl', ?_, ?_⟩
          · rw [List.map_append (f := mvD)]
            rfl
          · rw [← er2, List.append_assoc]
          · rw [List.length_append, List.length_singleton]
            omega
        · have hn : PyData.eqv tail[j].2 b[k].2 = true := by simpa using h
          rw [if_pos hn] at er2
          walk_at "ev"
          exact ⟨tail.eraseIdx j, out1, some ⟨.int (k : Nat), .fz, false⟩, some ⟨.int b[k].1, .fz, false⟩, some ⟨b[k].2, .fz, false⟩, some ⟨.int ((k + j : Nat) : Int), .fz, false⟩, rfl, rfl, rfl, rfl, rfl, tl', er2, by omega⟩
      · have hj : j = 0 := by
          have : k + j = k := by
            simp at h
            omega
          omega
        have er2 : out ++ ((if PyData.eqv tail[j].2 b[k].2 = true then [] else [Mv.cel (k : Nat) b[k].2]) ++ insP (b.drop (k + 1)) (k + 1) (tail.eraseIdx j)) = allM a b := by
          rw [← er, if_pos hj]
          rfl
        have lo2 : out.length ≤ 20 + 2 * k + 1 := by omega
        have same : idsL (b.take k) ++ idsL tail = idsL (b.take (k + 1)) ++ idsL (tail.eraseIdx j) := by
          subst hj
          rw [ids_take lk, ← ej1]
          match tail, lj with
          | q :: tail, lj => simp [idsL]
        rw [same]
        generalize out = out1 at er2 lo2 ⊢
        walk_at "ev"
        walk_at "ev"
        walk_at "evm"
        case ze => exact g_ixD (q := .inl b[k].1) rfl hit
        walk_at "ev"
        walk_at "evm"
        case ze => exact g_neF rfl rfl eqd
        walk_at "ev"
        refine ⟨fun h => ?_, fun h => ?_⟩
        · have hn : ¬ PyData.eqv tail[j].2 b[k].2 = true := by simpa using h
          rw [if_neg hn] at er2
          walk_at "ev"
          refine ⟨Nat.le_of_ble_eq_true rfl, ?_⟩
          walk_at "ev"
          walk_at "evw"
          case zm => exact Z2.m_app (by (try simp only [List.length_map, List.length_append, List.length_cons, List.length_nil]); omega)
          case z2 => walk_at "evs"
          walk_at "ev"
          refine ⟨tail.eraseIdx j, out1 ++ [Mv.cel (k : Nat) b[k].2], some ⟨.int (k : Nat), .fz, false⟩, some ⟨.int b[k].1, .fz, false⟩, some ⟨b[k].2, .fz, false⟩, some ⟨.int ((k + j : Nat) : Int), .fz, false⟩, ?_, rfl, rfl, rfl, rfl, tl', ?_, ?_⟩
          · rw [List.map_append (f := mvD)]
            rfl
          · rw [← er2, List.append_assoc]
          · rw [List.length_append, List.length_singleton]
            omega
        · have hn : PyData.eqv tail[j].2 b[k].2 = true := by simpa using h
          rw [if_pos hn] at er2
          walk_at "ev"
          exact ⟨tail.eraseIdx j, out1, some ⟨.int (k : Nat), .fz, false⟩, some ⟨.int b[k].1, .fz, false⟩, some ⟨b[k].2, .fz, false⟩, some ⟨.int ((k + j : Nat) : Int), .fz, false⟩, rfl, rfl, rfl, rfl, rfl, tl', er2, by omega⟩
    · have miss : dGet (dcD kCel (a.map pD) []) (.inl b[k].1) = none := cel_miss mem
      rw [pos_none fun z => mem ((tl.ids lk).mp z)] at er
      dsimp only at er
      walk_at "evm"
      case ze => exact g_ninD (q := .inl b[k].1) rfl
      rw [miss]
      walk_at "ev"
      refine ⟨fun _ => ?_, fun h => absurd h (by decide)⟩
      walk_at "ev"
      refine ⟨Nat.le_of_ble_eq_true rfl, ?_⟩
      walk_at "ev"
      walk_at "evw"
      case zm => exact Z2.m_app (by (try simp only [List.length_map, List.length_append, List.length_cons, List.length_nil]); omega)
      case z2 => walk_at "evs"
      walk_at "ev"
      walk_at "evw"
      case zm => exact m_ins (by rw [List.length_map]; omega) (by omega)
      case z2 => walk_at "evs"
      walk_at "ev"
      refine ⟨tail, out ++ [Mv.ins (k : Nat) b[k]], some ⟨.int (k : Nat), .fz, false⟩, some ⟨.int b[k].1, .fz, false⟩, some ⟨b[k].2, .fz, false⟩, x8, ?_, rfl, rfl, rfl, ?_, tl.none lk mem, ?_, ?_⟩
      · rw [map_ins, take_new dl, ids_take lk, List.map_append (f := mvD)]
        rfl
      · exact j8
      · rw [List.append_assoc]
        exact er
      · rw [List.length_append, List.length_singleton]
        omega
  · rintro s ⟨tail, out, x5, x6, x7, x8, rfl, j5, j6, j7, j8, tl, er, lo⟩
    rw [enumF_len, List.length_map, List.drop_length] at er
    have er : out ++ [] = _ := er
    rw [List.append_nil] at er
    walk_at "ev"
    exact ⟨_, rfl, by rw [er], rfl, rfl⟩
end Z2
local macro_rules | `(tactic| walk_at "drw") => `(tactic|
  ((with_reducible refine Z2.wp_draw (ds := ?zd) (a := ?za) (l := ?zl) (sl' := ?zs) ?ze ?zh ?zm ?z2 ?_); (case ze => exact rfl); (case zh => assumption); (case zm => omega); (case z2 => walk_at "evs")))
namespace Z2
open Z PySem PySem.Spec PyProof.Rows L2 GxR
theorem new_at {α : Type} {D T : List α} {k : Nat} {x : α} (e : D.length = k) : (D ++ [x] ++ T)[k]? = some x := by
  subst e
  rw [List.append_assoc, List.getElem?_append_right (Nat.le_refl _), Nat.sub_self]
  rfl
theorem cut_new {α : Type} {D T : List α} {k : Nat} (e : D.length = k) (x y : α) : (D ++ [x] ++ T).take k ++ [y] ++ (D ++ [x] ++ T).drop (k + 1) = D ++ [y] ++ T := by
  subst e
  rw [List.append_assoc D [x] T, List.take_left]
  have : (D ++ ([x] ++ T)).drop (D.length + 1) = T := by
    rw [← List.drop_drop, List.drop_left]
    rfl
  rw [this]
theorem made_ok {a b : List PR} (ha : OkP a) (hb : OkP b) (ob : List Ob1) : Spc F_law_made [⟨.tuple (a.map pD), .fz, false⟩, ⟨.tuple (b.map pD), .fz, false⟩] ob D0 fun w as ob' => w = ⟨.list ((allM a b).map mvD), .ls .fz, false⟩ ∧ as = [none, none] ∧ ob' = ob := by
  have la := ha.le
  have lb := hb.le
  have big := size_big
  refine spc (s := ⟨[some ⟨.tuple (a.map pD), .fz, false⟩, some ⟨.tuple (b.map pD), .fz, false⟩, none, none, none, none, none, none, none, none, none], ob⟩) rfl rfl ?_
  walk_at "ev"
  refine wb_mk (args_cons (lk_f rfl) args_nil) rfl ?_
  walk_at "ev"
  refine ⟨Nat.le_of_ble_eq_true rfl, ?_⟩
  walk_at "ev"
  refine' Z.wp_lcC Z2.fst0 ?o1 ?o2 ?o6 ?o7 ?o3 ?o4 ?o5 ?_
  case o1 => exact rfl
  case o2 => exact rfl
  case o6 => exact rfl
  case o7 => exact rfl
  case o3 => walk_at "evs"
  case o4 => (simp only [List.length_map]; omega)
  case o5 =>
    intro d hd
    obtain ⟨p, _, rfl⟩ := List.mem_map.mp hd
    walk_at "ev"
    exact ⟨rfl, rfl⟩
  rw [Z2.fst0_map]
  walk_at "ev"
  refine ws_for (fun k s => ∃ now out x, s = ⟨[some ⟨.tuple (a.map pD), .fz, false⟩, some ⟨.tuple (b.map pD), .fz, false⟩, some ⟨.list (now.map pD), .ls .fz, false⟩, some ⟨.list (out.map mvD), .ls .fz, false⟩, some ⟨.list ((idsL b).map PyData.int), .ls .fz, false⟩, x, none, none, none, none, none], ob⟩ ∧ jk x = true ∧ outsP (idsL b) (a.length - k) now out = outsP (idsL b) a.length a [] ∧ a.length - k ≤ now.length ∧ now.length ≤ a.length ∧ out.length ≤ k) (wi_rng3 ?_)
  walk_at "ev"
  refine wb_mk (args_cons (lk_f rfl) args_nil) rfl ?_
  walk_at "ev"
  refine wp_neg ?_
  walk_at "ev"
  refine ⟨_, _, _, lk_f rfl, ?_⟩
  walk_at "ev"
  refine wp_neg ?_
  walk_at "ev"
  refine ⟨_, _, _, lk_f rfl, ?_⟩
  walk_at "ev"
  refine ⟨_, _, _, _, _, _, _, _, _, rfl, ⟨?_, rfl, rfl⟩, ?_, ?_, ?_⟩
  · rw [List.length_map]
    simp [okRg]
    omega
  · exact ⟨a, [], none, rfl, rfl, rfl, Nat.le_refl _, Nat.le_refl _, Nat.le_refl _⟩
  · rintro k s d hk ⟨now, out, x, rfl, jx, er, le, le2, le3⟩
    have lk : k < a.length := by
      obtain ⟨lt, _⟩ := List.getElem?_eq_some_iff.mp hk
      rw [downR_len, List.length_map] at lt
      omega
    have e := downR_at hk
    obtain ⟨i, ei⟩ : ∃ i, a.length - k = i + 1 := ⟨a.length - k - 1, by omega⟩
    have e2 : d = .int (i : Nat) := by
      rw [e, List.length_map]
      congr 1
      omega
    subst e2
    have li : i < now.length := by omega
    rw [ei, outsP_succ li] at er
    walk_at "ev"
    walk_at "evm"
    case ze => exact g_ixL rfl (atI_nat (show (now.map pD)[i]? = some (pD now[i]) by rw [List.getElem?_map, List.getElem?_eq_getElem li]; rfl))
    walk_at "ev"
    walk_at "evm"
    case ze => exact g_ninI rfl
    walk_at "ev"
    refine ⟨fun h => ?_, fun h => ?_⟩
    · have h : now[i].1 ∉ idsL b := by simpa using h
      rw [if_neg h] at er
      walk_at "ev"
      refine ⟨Nat.le_of_ble_eq_true rfl, ?_⟩
      walk_at "ev"
      walk_at "evw"
      case zm => exact Z2.m_app (by (try simp only [List.length_map, List.length_append, List.length_cons, List.length_nil]); omega)
      case z2 => walk_at "evs"
      walk_at "ev"
      refine wo_part ?_
      walk_at "ev"
      refine ⟨_, _, _, lk_f rfl, _, _, lk_s rfl rfl, sl_to i, ?_⟩
      walk_at "ev"
      refine wo_part ?_
      walk_at "ev"
      refine ⟨_, _, _, lk_f rfl, ?_⟩
      walk_at "ev"
      refine ⟨_, _, lk_s rfl rfl, sl_from (i + 1), ?_⟩
      walk_at "evm"
      case ze => exact g_addL rfl rfl (by simp only [List.length_take, List.length_drop, List.length_map]; omega)
      walk_at "ev"
      refine ⟨now.eraseIdx i, out ++ [.out (i : Nat)], some ⟨.int (i : Nat), .fz, false⟩, ?_, rfl, ?_, ?_, ?_, ?_⟩
      · rw [← er_map, List.eraseIdx_eq_take_drop_succ, List.map_append (f := mvD)]
        rfl
      · rw [show a.length - (k + 1) = i by omega]
        exact er
      · rw [List.length_eraseIdx_of_lt li]
        omega
      · exact Nat.le_trans (List.eraseIdx_sublist _ _).length_le le2
      · rw [List.length_append, List.length_singleton]
        omega
    · have h : now[i].1 ∈ idsL b := by simpa using h
      rw [if_pos h] at er
      walk_at "ev"
      exact ⟨now, out, some ⟨.int (i : Nat), .fz, false⟩, rfl, rfl, by rw [show a.length - (k + 1) = i by omega]; exact er, by omega, le2, by omega⟩
  · rintro s ⟨now, out, x, rfl, jx, er, le, le2, le3⟩
    rw [downR_len, List.length_map] at er
    have z : a.length - ((a.length : Int) - 1 - -1).toNat = 0 := by omega
    rw [z] at er
    have er : (out, now) = _ := er
    walk_at "ev"
    refine ws_for (fun k s => ∃ tail out x5 x6 x7 x8 x9 x10, s = ⟨[some ⟨.tuple (a.map pD), .fz, false⟩, some ⟨.tuple (b.map pD), .fz, false⟩, some ⟨.list ((b.take k ++ tail).map pD), .ls .fz, false⟩, some ⟨.list (out.map mvD), .ls .fz, false⟩, some ⟨.list ((idsL b).map PyData.int), .ls .fz, false⟩, x5, x6, x7, x8, x9, x10], ob⟩ ∧ jk x5 = true ∧ jk x6 = true ∧ jk x7 = true ∧ jk x8 = true ∧ jk x9 = true ∧ jk x10 = true ∧ TL a b k tail ∧ out ++ insP (b.drop k) k tail = allM a b ∧ out.length ≤ 20 + 2 * k) (wi_rng1 ?_)
    walk_at "ev"
    refine wb_mk (args_cons (lk_f rfl) args_nil) rfl ?_
    walk_at "ev"
    refine ⟨_, _, _, rfl, ?_, ?_, ?_, ?_⟩
    · rw [List.length_map]
      simp [okRg]
      omega
    · refine ⟨(outsP (idsL b) a.length a []).2, (outsP (idsL b) a.length a []).1, x, none, none, none, none, none, ?_, jx, rfl, rfl, rfl, rfl, rfl, TL.start ha, rfl, ?_⟩
      · rw [← er]
        rfl
      · have := outs_len (b := b) ha
        omega
    · clear er le le2 le3 jx
      rintro k s d hk ⟨tail, out, x5, x6, x7, x8, x9, x10, rfl, j5, j6, j7, j8, j9, j10, tl, er, lo⟩
      obtain ⟨rfl, lk⟩ := intsR_at2 hk
      rw [List.length_map] at lk
      have lk : k < b.length := by omega
      rw [show (0 : Int) + (k : Int) = (k : Nat) by omega]
      have lt := tl.le
      have dl0 : (b.take k).length = k := by rw [List.length_take]; omega
      have tk : b.take (k + 1) = b.take k ++ [b[k]] := by rw [List.take_succ, List.getElem?_eq_getElem lk]; rfl
      rw [insP_cons lk] at er
      walk_at "ev"
      walk_at "evm"
      case ze => exact g_ixT (atI_nat (show (b.map pD)[k]? = some (pD b[k]) by rw [List.getElem?_map, List.getElem?_eq_getElem lk]; rfl))
      walk_at "ev"
      have lD : (b.take k).length ≤ 20 := by omega
      have lDT : (b.take k ++ tail).length ≤ 40 := by rw [List.length_append]; omega
      refine' Z.wp_lcN Z2.fst0 ?o1 ?o2 ?o3 ?o4 ?o5 ?_
      case o1 => exact rfl
      case o2 => walk_at "evs"
      case o3 => exact rfl
      case o4 => (simp only [List.length_map]; omega)
      case o5 =>
        intro d hd
        obtain ⟨p, _, rfl⟩ := List.mem_map.mp hd
        walk_at "ev"
        exact ⟨rfl, rfl⟩
      rw [Z2.fst0_map]
      walk_at "ev"
      walk_at "evm"
      case ze => exact g_ninI rfl
      walk_at "ev"
      have idm : b[k].1 ∈ (b.take k ++ tail).map (·.1) ↔ b[k].1 ∈ idsL a := by
        rw [List.map_append, List.mem_append]
        exact ⟨fun z => z.elim (fun z => (nin_take hb.nd lk z).elim) (tl.ids lk).mp, fun z => Or.inr ((tl.ids lk).mpr z)⟩
      refine ⟨fun h => ?_, fun h => ?_⟩
      · have mem : b[k].1 ∉ idsL a := by
          rw [← idm]
          simpa using h
        rw [pos_none fun z => mem ((tl.ids lk).mp z)] at er
        dsimp only at er
        walk_at "ev"
        refine ⟨Nat.le_of_ble_eq_true rfl, ?_⟩
        walk_at "ev"
        walk_at "evw"
        case zm => exact Z2.m_app (by (try simp only [List.length_map, List.length_append, List.length_cons, List.length_nil]); omega)
        case z2 => walk_at "evs"
        walk_at "ev"
        refine wo_part ?_
        walk_at "ev"
        refine ⟨_, _, _, lk_f rfl, _, _, lk_s rfl rfl, sl_to (k), ?_⟩
        walk_at "ev"
        refine ⟨Nat.le_of_ble_eq_true rfl, ?_⟩
        walk_at "ev"
        refine ⟨Nat.le_of_ble_eq_true rfl, ?_⟩
        walk_at "evm"
        case ze => exact g_addL rfl rfl (by simp only [List.length_append, List.length_take, List.length_drop, List.length_map, List.length_cons, List.length_nil]; omega)
        walk_at "ev"
        refine wo_part ?_
        walk_at "ev"
        refine ⟨_, _, _, lk_f rfl, ?_⟩
        walk_at "ev"
        refine ⟨_, _, lk_s rfl rfl, sl_from (k), ?_⟩
        walk_at "evm"
        case ze => exact g_addL rfl rfl (by simp only [List.length_append, List.length_take, List.length_drop, List.length_map, List.length_cons, List.length_nil]; omega)
        walk_at "ev"
        refine ⟨tail, out ++ [Mv.ins (k : Nat) b[k]], some ⟨.int (k : Nat), .fz, false⟩, some ⟨.int b[k].1, .fz, false⟩, some ⟨b[k].2, .fz, false⟩, some ⟨.list (((b.take k ++ tail).map (·.1)).map PyData.int), .ls .fz, false⟩, x9, none, ?_, rfl, rfl, rfl, rfl, j9, rfl, tl.none lk mem, ?_, ?_⟩
        · have e1 : ((b.take k ++ tail).map pD).take k ++ [pD b[k]] ++ ((b.take k ++ tail).map pD).drop k = (b.take (k + 1) ++ tail).map pD := by rw [map_ins, take_new dl0, tk]
          have e2 : out.map mvD ++ [.tuple [.str "in", .int (k : Nat), .int b[k].1, b[k].2]] = (out ++ [Mv.ins (k : Nat) b[k]]).map mvD := by
            rw [List.map_append]
            rfl
          rw [← e1, ← e2]
        · rw [List.append_assoc]
          exact er
        · rw [List.length_append, List.length_singleton]
          omega
      · have mem : b[k].1 ∈ idsL a := by
          rw [← idm]
          simpa using h
        obtain ⟨j, ej, gj⟩ := pos_some ((tl.ids lk).mpr mem)
        have lj : j < tail.length := by
          have := (List.getElem?_eq_some_iff.mp gj).1
          unfold idsL at this
          rwa [List.length_map] at this
        have ej1 : tail[j].1 = b[k].1 := by
          unfold idsL at gj
          rw [List.getElem?_map, List.getElem?_eq_getElem lj] at gj
          exact Option.some.inj gj
        have tj : tail[j] ∈ a := ((tl.mem _).mp (List.getElem_mem lj)).1
        have tl' := tl.some hb.nd lk lj ej1
        have lt2 := tl'.le
        rw [ej] at er
        dsimp only at er
        rw [List.getElem?_eq_getElem lj] at er
        dsimp only at er
        have dl : (idsL (b.take k)).length = k := ids_len (by omega)
        have ep : pos b[k].1 ((b.take k ++ tail).map (·.1)) = some (k + j) := by
          rw [List.map_append]
          show pos _ (idsL (b.take k) ++ idsL tail) = _
          rw [pos_app (nin_take hb.nd lk), ej, dl]
          show some (j + k) = _
          rw [Nat.add_comm]
        have oa : OkC tail[j].2 := (ha.ok _ tj).2.2
        have ob2 : OkC b[k].2 := (hb.ok _ (List.getElem_mem lk)).2.2
        have eqd := (eqv_ok oa ob2).1
        walk_at "ev"
        refine wp_mv ?_
        walk_at "ev"
        refine ⟨_, lk_s rfl rfl, rfl, ?_⟩
        walk_at "ev"
        refine ⟨_, lk_s rfl rfl, wb_mk (args_cons (lk_f rfl) args_nil) (g_index ep) ?_⟩
        walk_at "ev"
        refine ⟨fun h => ?_, fun h => ?_⟩
        · have hj : j ≠ 0 := by
            rintro rfl
            simp at h
          rw [if_neg hj] at er
          walk_at "ev"
          refine ⟨Nat.le_of_ble_eq_true rfl, ?_⟩
          walk_at "ev"
          walk_at "evw"
          case zm => exact Z2.m_app (by (try simp only [List.length_map, List.length_append, List.length_cons, List.length_nil]); omega)
          case z2 => walk_at "evs"
          walk_at "ev"
          walk_at "evm"
          case ze => exact g_ixL rfl (atI_nat (show ((b.take k ++ tail).map pD)[k + j]? = some (pD tail[j]) by rw [List.getElem?_map, List.getElem?_append_right (by omega), dl0, Nat.add_sub_cancel_left, List.getElem?_eq_getElem lj]; rfl))
          walk_at "ev"
          refine wo_part ?_
          walk_at "ev"
          refine ⟨_, _, _, lk_f rfl, _, _, lk_s rfl rfl, sl_to (k + j), ?_⟩
          walk_at "ev"
          refine wo_part ?_
          walk_at "ev"
          refine ⟨_, _, _, lk_f rfl, ?_⟩
          walk_at "ev"
          refine ⟨_, _, lk_s rfl rfl, sl_from (k + j + 1), ?_⟩
          walk_at "evm"
          case ze => exact g_addL rfl rfl (by simp only [List.length_append, List.length_take, List.length_drop, List.length_map, List.length_cons, List.length_nil]; omega)
          rw [show ((b.take k ++ tail).map pD).take (k + j) ++ ((b.take k ++ tail).map pD).drop (k + j + 1) = (b.take k ++ tail.eraseIdx j).map pD by
            rw [← List.eraseIdx_eq_take_drop_succ, er_map]
            have := erase_app (D := b.take k) (T := tail) (j := j)
            rw [dl0] at this
            rw [this]]
          walk_at "ev"
          refine wo_part ?_
          walk_at "ev"
          refine ⟨_, _, _, lk_f rfl, _, _, lk_s rfl rfl, sl_to (k), ?_⟩
          walk_at "ev"
          refine ⟨Nat.le_of_ble_eq_true rfl, ?_⟩
          walk_at "evm"
          case ze => exact g_addL rfl rfl (by simp only [List.length_append, List.length_take, List.length_drop, List.length_map, List.length_cons, List.length_nil]; omega)
          walk_at "ev"
          refine wo_part ?_
          walk_at "ev"
          refine ⟨_, _, _, lk_f rfl, ?_⟩
          walk_at "ev"
          refine ⟨_, _, lk_s rfl rfl, sl_from (k), ?_⟩
          walk_at "evm"
          case ze => exact g_addL rfl rfl (by simp only [List.length_append, List.length_take, List.length_drop, List.length_map, List.length_cons, List.length_nil]; omega)
          rw [show ((b.take k ++ tail.eraseIdx j).map pD).take k ++ [pD tail[j]] ++ ((b.take k ++ tail.eraseIdx j).map pD).drop k = (b.take k ++ [tail[j]] ++ tail.eraseIdx j).map pD by
            rw [map_ins, take_new dl0]]
          have eo : out.map mvD ++ [.tuple [.str "go", .int ((k + j : Nat) : Int), .int (k : Nat)]] = (out ++ [Mv.go ((k + j : Nat) : Int) (k : Nat)]).map mvD := by
            rw [List.map_append]
            rfl
          rw [eo]
          have er2 : (out ++ [Mv.go ((k + j : Nat) : Int) (k : Nat)]) ++ ((if PyData.eqv tail[j].2 b[k].2 = true then [] else [Mv.cel (k : Nat) b[k].2]) ++ insP (b.drop (k + 1)) (k + 1) (tail.eraseIdx j)) = allM a b := by
            rw [← er, List.append_assoc]
          have lo2 : (out ++ [Mv.go ((k + j : Nat) : Int) (k : Nat)]).length ≤ 20 + 2 * k + 1 := by
            rw [List.length_append, List.length_singleton]
            omega
          generalize out ++ [Mv.go ((k + j : Nat) : Int) (k : Nat)] = out1 at er2 lo2 ⊢
          obtain ⟨y10, ey, jy⟩ : ∃ y, y = some (⟨pD tail[j], .fz, false⟩ : Vl) ∧ jk y = true := ⟨_, rfl, rfl⟩
          rw [show some (⟨pD tail[j], .fz, false⟩ : Vl) = y10 from ey.symm]
          walk_at "ev"
          walk_at "evm"
          case ze => exact g_ixL rfl (atI_nat (show ((b.take k ++ [tail[j]] ++ tail.eraseIdx j).map pD)[k]? = some (pD tail[j]) by rw [List.getElem?_map, new_at dl0]; rfl))
          walk_at "ev"
          walk_at "evm"
          case ze => exact g_neF rfl rfl eqd
          walk_at "ev"
          refine ⟨fun h => ?_, fun h => ?_⟩
          · have hn : ¬ PyData.eqv tail[j].2 b[k].2 = true := by simpa using h
            rw [if_neg hn] at er2
            walk_at "ev"
            refine ⟨Nat.le_of_ble_eq_true rfl, ?_⟩
            walk_at "ev"
            walk_at "evw"
            case zm => exact Z2.m_app (by (try simp only [List.length_map, List.length_append, List.length_cons, List.length_nil]); omega)
            case z2 => walk_at "evs"
            walk_at "ev"
            refine wo_part ?_
            walk_at "ev"
            refine ⟨_, _, _, lk_f rfl, _, _, lk_s rfl rfl, sl_to (k), ?_⟩
            walk_at "ev"
            refine ⟨Nat.le_of_ble_eq_true rfl, ?_⟩
            walk_at "ev"
            refine ⟨Nat.le_of_ble_eq_true rfl, ?_⟩
            walk_at "evm"
            case ze => exact g_addL rfl rfl (by simp only [List.length_append, List.length_take, List.length_drop, List.length_map, List.length_cons, List.length_nil]; omega)
            walk_at "ev"
            refine wo_part ?_
            walk_at "ev"
            refine ⟨_, _, _, lk_f rfl, ?_⟩
            walk_at "ev"
            refine ⟨_, _, lk_s rfl rfl, sl_from (k + 1), ?_⟩
            walk_at "evm"
            case ze => exact g_addL rfl rfl (by simp only [List.length_append, List.length_take, List.length_drop, List.length_map, List.length_cons, List.length_nil]; omega)
            walk_at "ev"
            refine ⟨tail.eraseIdx j, out1 ++ [Mv.cel (k : Nat) b[k].2], some ⟨.int (k : Nat), .fz, false⟩, some ⟨.int b[k].1, .fz, false⟩, some ⟨b[k].2, .fz, false⟩, some ⟨.list (((b.take k ++ tail).map (·.1)).map PyData.int), .ls .fz, false⟩, some ⟨.int ((k + j : Nat) : Int), .fz, false⟩, y10, ?_, rfl, rfl, rfl, rfl, rfl, jy, tl', ?_, ?_⟩
            · have e1 : ((b.take k ++ [tail[j]] ++ tail.eraseIdx j).map pD).take k ++ [pD b[k]] ++ ((b.take k ++ [tail[j]] ++ tail.eraseIdx j).map pD).drop (k + 1) = (b.take (k + 1) ++ tail.eraseIdx j).map pD := by
                rw [← List.map_take, ← List.map_drop, show [pD b[k]] = [b[k]].map pD from rfl, ← List.map_append, ← List.map_append, cut_new dl0, tk]
              have e2 : out1.map mvD ++ [.tuple [.str "cells", .int (k : Nat), b[k].2]] = (out1 ++ [Mv.cel (k : Nat) b[k].2]).map mvD := by
                rw [List.map_append]
                rfl
              rw [← e1, ← e2]
            · rw [← er2, List.append_assoc]
            · rw [List.length_append, List.length_singleton]
              omega
          · have hn : PyData.eqv tail[j].2 b[k].2 = true := by simpa using h
            have ep : tail[j] = b[k] := Prod.ext ej1 ((eqv_ok oa ob2).2 hn)
            rw [if_pos hn] at er2
            walk_at "ev"
            refine ⟨tail.eraseIdx j, out1, some ⟨.int (k : Nat), .fz, false⟩, some ⟨.int b[k].1, .fz, false⟩, some ⟨b[k].2, .fz, false⟩, some ⟨.list (((b.take k ++ tail).map (·.1)).map PyData.int), .ls .fz, false⟩, some ⟨.int ((k + j : Nat) : Int), .fz, false⟩, y10, ?_, rfl, rfl, rfl, rfl, rfl, jy, tl', er2, by omega⟩
            rw [ep, ← tk]
        · have hj : j = 0 := by
            have : k + j = k := by
              simp at h
              omega
            omega
          have er2 : out ++ ((if PyData.eqv tail[j].2 b[k].2 = true then [] else [Mv.cel (k : Nat) b[k].2]) ++ insP (b.drop (k + 1)) (k + 1) (tail.eraseIdx j)) = allM a b := by
            rw [← er, if_pos hj]
            rfl
          have lo2 : out.length ≤ 20 + 2 * k + 1 := by omega
          have same : (b.take k ++ tail).map pD = (b.take k ++ [tail[j]] ++ tail.eraseIdx j).map pD := by
            subst hj
            match tail, lj with
            | q :: tail, lj => simp
          rw [same]
          generalize out = out1 at er2 lo2 ⊢
          obtain ⟨y10, ey, jy⟩ : ∃ y : Option Vl, y = none ∧ jk y = true := ⟨_, rfl, rfl⟩
          walk_at "ev"
          walk_at "ev"
          walk_at "evm"
          case ze => exact g_ixL rfl (atI_nat (show ((b.take k ++ [tail[j]] ++ tail.eraseIdx j).map pD)[k]? = some (pD tail[j]) by rw [List.getElem?_map, new_at dl0]; rfl))
          walk_at "ev"
          walk_at "evm"
          case ze => exact g_neF rfl rfl eqd
          walk_at "ev"
          refine ⟨fun h => ?_, fun h => ?_⟩
          · have hn : ¬ PyData.eqv tail[j].2 b[k].2 = true := by simpa using h
            rw [if_neg hn] at er2
            walk_at "ev"
            refine ⟨Nat.le_of_ble_eq_true rfl, ?_⟩
            walk_at "ev"
            walk_at "evw"
            case zm => exact Z2.m_app (by (try simp only [List.length_map, List.length_append, List.length_cons, List.length_nil]); omega)
            case z2 => walk_at "evs"
            walk_at "ev"
            refine wo_part ?_
            walk_at "ev"
            refine ⟨_, _, _, lk_f rfl, _, _, lk_s rfl rfl, sl_to (k), ?_⟩
            walk_at "ev"
            refine ⟨Nat.le_of_ble_eq_true rfl, ?_⟩
            walk_at "ev"
            refine ⟨Nat.le_of_ble_eq_true rfl, ?_⟩
            walk_at "evm"
            case ze => exact g_addL rfl rfl (by simp only [List.length_append, List.length_take, List.length_drop, List.length_map, List.length_cons, List.length_nil]; omega)
            walk_at "ev"
            refine wo_part ?_
            walk_at "ev"
            refine ⟨_, _, _, lk_f rfl, ?_⟩
            walk_at "ev"
            refine ⟨_, _, lk_s rfl rfl, sl_from (k + 1), ?_⟩
            walk_at "evm"
            case ze => exact g_addL rfl rfl (by simp only [List.length_append, List.length_take, List.length_drop, List.length_map, List.length_cons, List.length_nil]; omega)
            walk_at "ev"
            refine ⟨tail.eraseIdx j, out1 ++ [Mv.cel (k : Nat) b[k].2], some ⟨.int (k : Nat), .fz, false⟩, some ⟨.int b[k].1, .fz, false⟩, some ⟨b[k].2, .fz, false⟩, some ⟨.list (((b.take k ++ tail).map (·.1)).map PyData.int), .ls .fz, false⟩, some ⟨.int ((k + j : Nat) : Int), .fz, false⟩, none, ?_, rfl, rfl, rfl, rfl, rfl, rfl, tl', ?_, ?_⟩
            · have e1 : ((b.take k ++ [tail[j]] ++ tail.eraseIdx j).map pD).take k ++ [pD b[k]] ++ ((b.take k ++ [tail[j]] ++ tail.eraseIdx j).map pD).drop (k + 1) = (b.take (k + 1) ++ tail.eraseIdx j).map pD := by
                rw [← List.map_take, ← List.map_drop, show [pD b[k]] = [b[k]].map pD from rfl, ← List.map_append, ← List.map_append, cut_new dl0, tk]
              have e2 : out1.map mvD ++ [.tuple [.str "cells", .int (k : Nat), b[k].2]] = (out1 ++ [Mv.cel (k : Nat) b[k].2]).map mvD := by
                rw [List.map_append]
                rfl
              rw [← e1, ← e2]
            · rw [← er2, List.append_assoc]
            · rw [List.length_append, List.length_singleton]
              omega
          · have hn : PyData.eqv tail[j].2 b[k].2 = true := by simpa using h
            have ep : tail[j] = b[k] := Prod.ext ej1 ((eqv_ok oa ob2).2 hn)
            rw [if_pos hn] at er2
            walk_at "ev"
            refine ⟨tail.eraseIdx j, out1, some ⟨.int (k : Nat), .fz, false⟩, some ⟨.int b[k].1, .fz, false⟩, some ⟨b[k].2, .fz, false⟩, some ⟨.list (((b.take k ++ tail).map (·.1)).map PyData.int), .ls .fz, false⟩, some ⟨.int ((k + j : Nat) : Int), .fz, false⟩, none, ?_, rfl, rfl, rfl, rfl, rfl, rfl, tl', er2, by omega⟩
            rw [ep, ← tk]
    · rintro s ⟨tail, out, x5, x6, x7, x8, x9, x10, rfl, j5, j6, j7, j8, j9, j10, tl, er, lo⟩
      rw [intsR_len, List.length_map, show (b.length : Int).toNat = b.length by omega, List.drop_length] at er
      have er : out ++ [] = _ := er
      rw [List.append_nil] at er
      walk_at "ev"
      exact ⟨_, rfl, by rw [er], rfl, rfl⟩
end Z2
local macro_rules | `(tactic| walk_at "drw") => `(tactic|
  ((with_reducible refine Z2.wp_draw (ds := ?zd) (a := ?za) (l := ?zl) (sl' := ?zs) ?ze ?zh ?zm ?z2 ?_); (case ze => exact rfl); (case zh => assumption); (case zm => omega); (case z2 => walk_at "evs")))
namespace Z2
open Z PySem PySem.Spec PyProof.Rows L2 GxR
theorem runs_app {ms ns : List Mv} : ∀ {a : List PR}, runs a (ms ++ ns) = (runs a ms).bind fun b => runs b ns := by
  induction ms with
  | nil => exact fun {a} => rfl
  | cons m ms ih =>
    intro a
    show (beh a m).bind (fun b => runs b (ms ++ ns)) = ((beh a m).bind fun b => runs b ms).bind _
    cases beh a m with
    | none => rfl
    | some b => exact ih
theorem atR_at {a : List PR} {i : Nat} (h : i < a.length) : atR a i = some a[i] := by
  unfold atR
  rw [if_pos (by omega)]
  exact List.getElem?_eq_getElem h
theorem outsP_runs {K : List Int} {a : List PR} : ∀ (i : Nat) (now : List PR) (out : List Mv), i ≤ now.length → runs a out = some now → runs a (outsP K i now out).1 = some (outsP K i now out).2
  | 0, _, _, _, h => h
  | i + 1, now, out, le, h => by
    have li : i < now.length := by omega
    rw [outsP_succ li]
    split
    · exact outsP_runs i now out (by omega) h
    · refine outsP_runs i _ _ (by rw [List.length_eraseIdx_of_lt li]; omega) ?_
      rw [runs_app, h]
      show ((atR now (i : Nat)).map fun _ => now.eraseIdx i).bind _ = _
      rw [atR_at li]
      rfl
theorem withR_ok {D T : List PR} {k : Nat} {p : PR} (e : D.length = k) (h1 : p.1 ∉ idsL D) (h2 : p.1 ∉ idsL T) : withR (D ++ T) (k : Nat) p = some (D ++ [p] ++ T) := by
  unfold withR
  rw [if_pos ⟨by rw [List.length_append]; omega, by rw [List.map_append, List.mem_append]; exact fun z => z.elim h1 h2⟩]
  show some (insL (D ++ T) k p) = _
  rw [insL, take_new e]
theorem nin_erase {tail : List PR} (nd : (idsL tail).Nodup) {j : Nat} (lj : j < tail.length) : tail[j].1 ∉ idsL (tail.eraseIdx j) := by
  intro m
  obtain ⟨p, mp, e⟩ := List.mem_map.mp m
  exact ((mem_erase nd lj p).mp mp).2 e
theorem insP_runs {a b : List PR} (ha : OkP a) (hb : OkP b) : ∀ (n k : Nat) (tail : List PR), b.length = k + n → TL a b k tail → runs (b.take k ++ tail) (insP (b.drop k) k tail) = some b
  | 0, k, tail, e, tl => by
    have et : tail = [] := by
      cases tail with
      | nil => rfl
      | cons p tail =>
        have := ((tl.mem p).mp List.mem_cons_self).2
        rw [List.drop_eq_nil_of_le (by omega)] at this
        cases this
    subst et
    rw [List.drop_eq_nil_of_le (by omega), List.append_nil, List.take_of_length_le (by omega)]
    rfl
  | n + 1, k, tail, e, tl => by
    have lk : k < b.length := by omega
    have dl0 : (b.take k).length = k := by rw [List.length_take]; omega
    have tk : b.take (k + 1) = b.take k ++ [b[k]] := by rw [List.take_succ, List.getElem?_eq_getElem lk]; rfl
    have ih := insP_runs ha hb n (k + 1)
    rw [insP_cons lk]
    by_cases mem : b[k].1 ∈ idsL a
    · obtain ⟨j, ej, gj⟩ := pos_some ((tl.ids lk).mpr mem)
      have lj : j < tail.length := by
        have := (List.getElem?_eq_some_iff.mp gj).1
        unfold idsL at this
        rwa [List.length_map] at this
      have ej1 : tail[j].1 = b[k].1 := by
        unfold idsL at gj
        rw [List.getElem?_map, List.getElem?_eq_getElem lj] at gj
        exact Option.some.inj gj
      have tj : tail[j] ∈ a := ((tl.mem _).mp (List.getElem_mem lj)).1
      have tl' := tl.some hb.nd lk lj ej1
      have ne := nin_erase tl.nd lj
      have nD : tail[j].1 ∉ idsL (b.take k) := ej1 ▸ nin_take hb.nd lk
      have oa : OkC tail[j].2 := (ha.ok _ tj).2.2
      have ob2 : OkC b[k].2 := (hb.ok _ (List.getElem_mem lk)).2.2
      rw [ej]
      dsimp only
      rw [List.getElem?_eq_getElem lj]
      dsimp only
      have s1 : runs (b.take k ++ tail) (if j = 0 then [] else [Mv.go ((k + j : Nat) : Int) (k : Nat)]) = some (b.take k ++ [tail[j]] ++ tail.eraseIdx j) := by
        by_cases hj : j = 0
        · rw [if_pos hj]
          subst hj
          match tail, lj with
          | q :: tail, lj => simp [runs]
        · rw [if_neg hj]
          show ((atR (b.take k ++ tail) ((k + j : Nat) : Int)).bind fun p => withR ((b.take k ++ tail).eraseIdx (k + j)) (k : Nat) p).bind _ = _
          have er := erase_app (D := b.take k) (T := tail) (j := j)
          rw [dl0] at er
          rw [atR_at (by rw [List.length_append]; omega), er]
          have eg : (b.take k ++ tail)[k + j]'(by rw [List.length_append]; omega) = tail[j] := by
            rw [List.getElem_append_right (by omega)]
            have e : k + j - (b.take k).length = j := by omega
            simp only [e]
          rw [eg]
          show ((withR (b.take k ++ tail.eraseIdx j) (k : Nat) tail[j]).bind _) = _
          rw [withR_ok dl0 nD ne]
          rfl
      rw [runs_app, s1]
      show runs _ _ = _
      rw [runs_app]
      have s2 : runs (b.take k ++ [tail[j]] ++ tail.eraseIdx j) (if PyData.eqv tail[j].2 b[k].2 = true then [] else [Mv.cel (k : Nat) b[k].2]) = some (b.take (k + 1) ++ tail.eraseIdx j) := by
        by_cases hc : PyData.eqv tail[j].2 b[k].2 = true
        · rw [if_pos hc, tk, show tail[j] = b[k] from Prod.ext ej1 ((eqv_ok oa ob2).2 hc)]
          rfl
        · rw [if_neg hc]
          have lX : k < (b.take k ++ [tail[j]] ++ tail.eraseIdx j).length := by
            rw [List.length_append, List.length_append, List.length_singleton]
            omega
          show ((atR (b.take k ++ [tail[j]] ++ tail.eraseIdx j) (k : Nat)).bind fun p => withR ((b.take k ++ [tail[j]] ++ tail.eraseIdx j).eraseIdx k) (k : Nat) (p.1, b[k].2)).bind _ = _
          have eX : (b.take k ++ [tail[j]] ++ tail.eraseIdx j).eraseIdx k = b.take k ++ tail.eraseIdx j := by
            have := erase_app (D := b.take k) (T := [tail[j]] ++ tail.eraseIdx j) (j := 0)
            rw [dl0, ← List.append_assoc] at this
            exact this
          have gX : (b.take k ++ [tail[j]] ++ tail.eraseIdx j)[k] = tail[j] := Option.some.inj ((List.getElem?_eq_getElem lX).symm.trans (new_at dl0))
          rw [atR_at lX, eX, gX]
          show ((withR (b.take k ++ tail.eraseIdx j) (k : Nat) (tail[j].1, b[k].2)).bind _) = _
          rw [withR_ok (p := (tail[j].1, b[k].2)) dl0 nD ne, ej1, tk]
          rfl
      rw [s2]
      exact ih _ (by omega) tl'
    · have nt : b[k].1 ∉ idsL tail := fun z => mem ((tl.ids lk).mp z)
      rw [pos_none nt]
      show ((withR (b.take k ++ tail) (k : Nat) b[k]).bind fun c => runs c _) = _
      rw [withR_ok dl0 (nin_take hb.nd lk) nt, ← tk]
      exact ih tail (by omega) (tl.none lk mem)
theorem allM_runs {a b : List PR} (ha : OkP a) (hb : OkP b) : runs a (allM a b) = some b := by
  unfold allM
  rw [runs_app, outsP_runs a.length a [] (Nat.le_refl _) rfl]
  exact insP_runs ha hb b.length 0 _ (by omega) (TL.start ha)
theorem outsP_all {K : List Int} : ∀ (i : Nat) (now : List PR) (out : List Mv), i ≤ now.length → (∀ p ∈ now, p.1 ∈ K) → outsP K i now out = (out, now)
  | 0, _, _, _, _ => rfl
  | i + 1, now, out, le, h => by
    rw [outsP_succ (show i < now.length by omega), if_pos (h _ (List.getElem_mem _))]
    exact outsP_all i now out (by omega) h
theorem eqv_self {c : PyData} (h : OkC c) : PyData.eqv c c = true := by
  obtain ⟨v, rfl, rfl | ⟨i, rfl, _⟩⟩ := h
  · rfl
  · show (i == i && true) = true
    simp
theorem insP_self {b : List PR} (hb : OkP b) : ∀ (n k : Nat), b.length = k + n → insP (b.drop k) k (b.drop k) = []
  | 0, k, e => by
    rw [List.drop_eq_nil_of_le (by omega)]
    rfl
  | n + 1, k, e => by
    have lk : k < b.length := by omega
    rw [insP_cons lk]
    have e1 : b.drop k = b[k] :: b.drop (k + 1) := List.drop_eq_getElem_cons lk
    have e2 : pos b[k].1 (idsL (b.drop k)) = some 0 := by
      rw [e1]
      show pos b[k].1 (b[k].1 :: _) = _
      rw [pos_cons, if_pos rfl]
    rw [e2]
    dsimp only
    rw [if_pos rfl, e1]
    show (if PyData.eqv b[k].2 b[k].2 = true then [] else _) ++ _ = _
    rw [if_pos (eqv_self (hb.ok _ (List.getElem_mem lk)).2.2)]
    exact insP_self hb n (k + 1) (by omega)
theorem allM_self {a : List PR} (ha : OkP a) : allM a a = [] := by
  unfold allM
  rw [outsP_all (K := idsL a) a.length a [] (Nat.le_refl _) fun p m => List.mem_map.mpr ⟨p, m, rfl⟩]
  exact insP_self ha a.length 0 (by omega)
end Z2
local macro_rules | `(tactic| walk_at "drw") => `(tactic|
  ((with_reducible refine Z2.wp_draw (ds := ?zd) (a := ?za) (l := ?zl) (sl' := ?zs) ?ze ?zh ?zm ?z2 ?_); (case ze => exact rfl); (case zh => assumption); (case zm => omega); (case z2 => walk_at "evs")))
namespace Z2
open Z PySem PySem.Spec PyProof.Rows L2 GxR
structure Sml (w k : Nat) (d : PyData) : Prop where
  c : d.canLay0 = true
  k : d.depth ≤ k
  w : d.weight ≤ w
  i : d.intsShort 13 = true
  s : d.showable = true
theorem Sml.up {w w' k k' : Nat} {d : PyData} (h : Sml w k d) (hw : w ≤ w') (hk : k ≤ k') : Sml w' k' d := ⟨h.c, Nat.le_trans h.k hk, Nat.le_trans h.w hw, h.i, h.s⟩
theorem sml_int {i : Int} (h : i.natAbs < 10 ^ 12) : Sml 64 0 (.int i) := by
  have l : i.natAbs ≠ 0 → i.natAbs.log2 < 63 := fun z => (Nat.log2_lt z).mpr (Nat.lt_of_lt_of_le h (by decide))
  refine ⟨rfl, Nat.le_refl _, ?_, decide_eq_true (PyData.shown_int_le h), ?_⟩
  · show (if i == 0 then 0 else i.natAbs.log2 + 1) ≤ 64
    split
    · omega
    · rename_i z
      have : i ≠ 0 := by simpa using z
      have := l (by omega)
      omega
  · show decide (i.natAbs.log2 < 1920) = true
    rw [decide_eq_true_eq]
    by_cases z : i.natAbs = 0
    · rw [z]
      decide
    · have := l z
      omega
theorem sml_all {w k : Nat} : ∀ {ds : List PyData}, (∀ d ∈ ds, Sml w k d) → PyData.canLayAll0 ds = true ∧ PyData.depthAll ds ≤ k ∧ PyData.weightAll ds ≤ ds.length * (w + 1) ∧ PyData.intsShortAll 13 ds = true ∧ PyData.showableAll ds = true
  | [], _ => ⟨rfl, Nat.zero_le _, Nat.zero_le _, rfl, rfl⟩
  | d :: ds, h => by
    obtain ⟨a1, a2, a3, a4, a5⟩ := sml_all fun d hd => h d (List.mem_cons_of_mem _ hd)
    have b := h d List.mem_cons_self
    refine ⟨?_, ?_, ?_, ?_, ?_⟩
    · show (d.canLay0 && PyData.canLayAll0 ds) = true
      rw [b.c, a1]
      rfl
    · show max d.depth (PyData.depthAll ds) ≤ k
      exact Nat.max_le.mpr ⟨b.k, a2⟩
    · show d.weight + 1 + PyData.weightAll ds ≤ (ds.length + 1) * (w + 1)
      rw [Nat.add_mul]
      have := b.w
      omega
    · show (d.intsShort 13 && PyData.intsShortAll 13 ds) = true
      rw [b.i, a4]
      rfl
    · show (d.showable && PyData.showableAll ds) = true
      rw [b.s, a5]
      rfl
theorem sml_tup {w k n : Nat} {ds : List PyData} (h : ∀ d ∈ ds, Sml w k d) (l : ds.length ≤ n) : Sml (n * (w + 1)) (k + 1) (.tuple ds) := by
  obtain ⟨a1, a2, a3, a4, a5⟩ := sml_all h
  exact ⟨a1, Nat.succ_le_succ a2, Nat.le_trans a3 (Nat.mul_le_mul_right _ l), a4, a5⟩
theorem sml_list {w k n : Nat} {ds : List PyData} (h : ∀ d ∈ ds, Sml w k d) (l : ds.length ≤ n) : Sml (n * (w + 1)) (k + 1) (.list ds) := by
  obtain ⟨a1, a2, a3, a4, a5⟩ := sml_all h
  exact ⟨a1, Nat.succ_le_succ a2, Nat.le_trans a3 (Nat.mul_le_mul_right _ l), a4, a5⟩
theorem repr_ok {d : PyData} {t : Sh} {l : Bool} (h : Sml (2 ^ 20) 64 d) (ht : t.fzOk = true) : gRepr [⟨d, t, l⟩] = some (.f (.str d.shown)) := by
  show (if _ then _ else _) = _
  have k := h.k
  have lay : d.layable0 = true := by
    show (d.canLay0 && decide (d.depth ≤ 64) && decide (d.weight ≤ 2 ^ 20)) = true
    rw [h.c, decide_eq_true h.k, decide_eq_true h.w]
    rfl
  rw [if_pos ⟨ht, PyData.hasDict_of_canLay d h.c, by dsimp only; omega, h.s, PyData.shown_fits_of_layable0 (B := 13) (by decide) (by decide) lay h.i⟩]
def OkM : Mv → Prop
  | .out i => i.natAbs < 1000
  | .go i j => i.natAbs < 1000 ∧ j.natAbs < 1000
  | .cel i c => i.natAbs < 1000 ∧ OkC c
  | .ins i p => i.natAbs < 1000 ∧ p.1.natAbs < 1000 ∧ OkC p.2
theorem sml_c {c : PyData} (h : OkC c) : Sml 65 1 c := by
  obtain ⟨v, rfl, hv⟩ := h
  have : Sml 64 0 v := by
    rcases hv with rfl | ⟨i, rfl, h1, h2⟩
    · exact ⟨rfl, Nat.le_refl _, Nat.zero_le _, rfl, rfl⟩
    · exact sml_int (by omega)
  exact sml_tup (n := 1) (fun d hd => by rw [List.mem_singleton.mp hd]; exact this) (Nat.le_refl _)
theorem sml_i {i : Int} (h : i.natAbs < 1000) : Sml 65 1 (.int i) := (sml_int (by omega)).up (by omega) (by omega)
theorem sml_s {x : Str} (h : (x.cps.toList.all fun c => decide (c < 0x110000)) = true) (h2 : x.cps.size ≤ 65) : Sml 65 1 (.str x) := by
  refine ⟨?_, Nat.zero_le _, h2, rfl, rfl⟩
  show (x.cps.all fun c => decide (c < 0x110000)) = true
  rw [← Array.all_toList]
  exact h
theorem sml_m {m : Mv} (h : OkM m) : Sml (4 * 66) 2 (mvD m) := by
  cases m with
  | out i =>
    refine sml_tup (w := 65) (n := 4) (fun d hd => ?_) (by simp)
    simp only [List.mem_cons, List.not_mem_nil, or_false] at hd
    rcases hd with rfl | rfl
    · exact sml_s (by decide) (by decide)
    · exact sml_i h
  | go i j =>
    refine sml_tup (w := 65) (n := 4) (fun d hd => ?_) (by simp)
    simp only [List.mem_cons, List.not_mem_nil, or_false] at hd
    rcases hd with rfl | rfl | rfl
    · exact sml_s (by decide) (by decide)
    · exact sml_i h.1
    · exact sml_i h.2
  | cel i c =>
    refine sml_tup (w := 65) (n := 4) (fun d hd => ?_) (by simp)
    simp only [List.mem_cons, List.not_mem_nil, or_false] at hd
    rcases hd with rfl | rfl | rfl
    · exact sml_s (by decide) (by decide)
    · exact sml_i h.1
    · exact sml_c h.2
  | ins i p =>
    refine sml_tup (w := 65) (n := 4) (fun d hd => ?_) (by simp)
    simp only [List.mem_cons, List.not_mem_nil, or_false] at hd
    rcases hd with rfl | rfl | rfl | rfl
    · exact sml_s (by decide) (by decide)
    · exact sml_i h.1
    · exact sml_i h.2.1
    · exact sml_c h.2.2
theorem outsP_okm {K : List Int} : ∀ (i : Nat) (now : List PR) (out : List Mv), i ≤ 100 → i ≤ now.length → (∀ m ∈ out, OkM m) → ∀ m ∈ (outsP K i now out).1, OkM m
  | 0, _, _, _, _, h => h
  | i + 1, now, out, l, le, h => by
    have li : i < now.length := by omega
    rw [outsP_succ li]
    split
    · exact outsP_okm i now out (by omega) (by omega) h
    · refine outsP_okm i _ _ (by omega) (by rw [List.length_eraseIdx_of_lt li]; omega) fun m hm => ?_
      rcases List.mem_append.mp hm with hm | hm
      · exact h m hm
      · rw [List.mem_singleton.mp hm]
        show ((i : Nat) : Int).natAbs < 1000
        omega
theorem insP_okm : ∀ (rest : List PR) (k : Nat) (tail : List PR), k + rest.length ≤ 100 → tail.length ≤ 20 → (∀ p ∈ rest, 0 ≤ p.1 ∧ p.1 ≤ 9 ∧ OkC p.2) → (∀ m ∈ insP rest k tail, OkM m) ∧ (insP rest k tail).length ≤ 2 * rest.length
  | [], _, _, _, _, _ => ⟨fun _ h => (List.not_mem_nil h).elim, Nat.le_refl _⟩
  | p :: rest, k, tail, l, lt, h => by
    rw [List.length_cons] at l
    have hp := h p List.mem_cons_self
    have hr := fun q hq => h q (List.mem_cons_of_mem _ hq)
    unfold insP
    cases e : pos p.1 (idsL tail) with
    | none =>
      dsimp only
      obtain ⟨i1, i2⟩ := insP_okm rest (k + 1) tail (by omega) lt hr
      refine ⟨fun m hm => ?_, by simp only [List.length_cons]; omega⟩
      rcases List.mem_cons.mp hm with rfl | hm
      · exact ⟨by omega, by omega, hp.2.2⟩
      · exact i1 m hm
    | some j =>
      dsimp only
      have lj : j < tail.length := by
        by_cases m : p.1 ∈ idsL tail
        · obtain ⟨j', e', g⟩ := pos_some m
          rw [e] at e'
          cases e'
          have := (List.getElem?_eq_some_iff.mp g).1
          unfold idsL at this
          rwa [List.length_map] at this
        · rw [pos_none m] at e
          cases e
      rw [List.getElem?_eq_getElem lj]
      dsimp only
      obtain ⟨i1, i2⟩ := insP_okm rest (k + 1) (tail.eraseIdx j) (by omega) (Nat.le_trans (List.eraseIdx_sublist _ _).length_le lt) hr
      refine ⟨fun m hm => ?_, ?_⟩
      · rcases List.mem_append.mp hm with hm | hm
        · split at hm
          · cases hm
          · rw [List.mem_singleton.mp hm]
            exact ⟨by omega, by omega⟩
        · rcases List.mem_append.mp hm with hm | hm
          · split at hm
            · cases hm
            · rw [List.mem_singleton.mp hm]
              exact ⟨by omega, hp.2.2⟩
          · exact i1 m hm
      · rw [List.length_append, List.length_append, List.length_cons]
        have a1 : (if j = 0 then [] else [Mv.go ((k + j : Nat) : Int) (k : Nat)]).length ≤ 1 := by split <;> simp
        have a2 : (if PyData.eqv tail[j].2 p.2 = true then [] else [Mv.cel (k : Nat) p.2]).length ≤ 1 := by split <;> simp
        omega
theorem allM_ok {a b : List PR} (ha : OkP a) (hb : OkP b) : (∀ m ∈ allM a b, OkM m) ∧ (allM a b).length ≤ 60 := by
  have la := ha.le
  have lb := hb.le
  have tl := (TL.start (b := b) ha).le
  obtain ⟨i1, i2⟩ := insP_okm b 0 (outsP (idsL b) a.length a []).2 (by omega) tl hb.ok
  have o := outsP_okm (K := idsL b) a.length a [] (by omega) (Nat.le_refl _) fun m h => (List.not_mem_nil h).elim
  refine ⟨fun m hm => ?_, ?_⟩
  · rcases List.mem_append.mp hm with hm | hm
    · exact o m hm
    · exact i1 m hm
  · have := outs_len (b := b) ha
    unfold allM
    rw [List.length_append]
    omega
theorem sml_allM {a b : List PR} (ha : OkP a) (hb : OkP b) : Sml (2 ^ 20) 64 (.list ((allM a b).map mvD)) := by
  obtain ⟨h1, h2⟩ := allM_ok ha hb
  refine (sml_list (w := 4 * 66) (k := 2) (n := 60) (fun d hd => ?_) (by rw [List.length_map]; exact h2)).up (by decide) (by decide)
  obtain ⟨m, hm, rfl⟩ := List.mem_map.mp hd
  exact sml_m (h1 m hm)
theorem sml_rows {a : List PR} (ha : OkP a) : Sml (2 ^ 20) 64 (.tuple (a.map pD)) := by
  refine (sml_tup (w := 2 * 66) (k := 2) (n := 20) (fun d hd => ?_) (by rw [List.length_map]; exact ha.le)).up (by decide) (by decide)
  obtain ⟨p, hp, rfl⟩ := List.mem_map.mp hd
  have h := ha.ok p hp
  refine sml_tup (w := 65) (n := 2) (fun d hd => ?_) (by simp)
  simp only [List.mem_cons, List.not_mem_nil, or_false] at hd
  rcases hd with rfl | rfl
  · exact sml_i (by omega)
  · exact sml_c h.2.2
end Z2
local macro_rules | `(tactic| walk_at "drw") => `(tactic|
  ((with_reducible refine Z2.wp_draw (ds := ?zd) (a := ?za) (l := ?zl) (sl' := ?zs) ?ze ?zh ?zm ?z2 ?_); (case ze => exact rfl); (case zh => assumption); (case zm => omega); (case z2 => walk_at "evs")))
namespace Z2
open Z PySem PySem.Spec PyProof.Rows L2 GxR
theorem same_ls {d : PyData} {l l' : Bool} (h : Sml (2 ^ 20) 64 d) (ob : List Ob1) : Spc F_law_same [⟨d, .ls .fz, l⟩, ⟨d, .ls .fz, l'⟩] ob D0 fun w as ob' => w = .f (.bool true) ∧ as = [some ⟨d, .ls .fz, true⟩, some ⟨d, .ls .fz, true⟩] ∧ ob' = ob := by
  refine spc (s := ⟨[some ⟨d, .ls .fz, true⟩, some ⟨d, .ls .fz, true⟩], ob⟩) rfl rfl ?_
  walk_at "ev"
  refine wb_mk (args_cons (lk_s rfl rfl) args_nil) (repr_ok h rfl) ?_
  walk_at "ev"
  refine wb_mk (args_cons (lk_s rfl rfl) args_nil) (repr_ok h rfl) ?_
  walk_at "ev"
  exact ⟨_, rfl, by rw [decide_eq_true rfl], rfl, rfl⟩
theorem same_fz {d : PyData} (h : Sml (2 ^ 20) 64 d) (ob : List Ob1) : Spc F_law_same [⟨d, .fz, false⟩, ⟨d, .fz, false⟩] ob D0 fun w as ob' => w = .f (.bool true) ∧ as = [none, none] ∧ ob' = ob := by
  refine spc (s := ⟨[some ⟨d, .fz, false⟩, some ⟨d, .fz, false⟩], ob⟩) rfl rfl ?_
  walk_at "ev"
  refine wb_mk (args_cons (lk_f rfl) args_nil) (repr_ok h rfl) ?_
  walk_at "ev"
  refine wb_mk (args_cons (lk_f rfl) args_nil) (repr_ok h rfl) ?_
  walk_at "ev"
  exact ⟨_, rfl, by rw [decide_eq_true rfl], rfl, rfl⟩
theorem ws_tryX {i : Nat} {tk : Str → Option Bool} {fb : FS} {fx : Xn → FS} {s : Sta} {E : Xn → Sta → Prop} {R : Hd → Sta → Prop} {B C N : Sta → Prop} (h : Ws (fb s) (fun e s1 => tk e.cls = some true ∧ i < s1.sl.length ∧ Ws (fx e (wipeS s1 [i])) E0 R (fun _ => False) (fun _ => False) (fun _ => False)) R B C N) : Ws (fTryAs i tk fb fx s) E R B C N := by
  unfold fTryAs
  match fb s, h.run with
  | .ok .nx _, h => exact ⟨h⟩
  | .ok .bk _, h => exact ⟨h⟩
  | .ok .ct _, h => exact ⟨h⟩
  | .ok (.rt _) _, h => exact ⟨h⟩
  | .ex e s1, h =>
    obtain ⟨h1, h2, h3⟩ := h
    dsimp only
    rw [h1]
    dsimp only
    rw [if_pos h2]
    match fx e (wipeS s1 [i]), h3.run with
    | .ok (.rt _) _, h => exact ⟨h⟩
theorem wp_isx {tk : Str → Option Bool} {e : Xn} {s : Sta} {E : Xn → Sta → Prop} {P : Hd → Sta → Prop} {b : Bool} (h : tk e.cls = some b) (hP : P (vf (.bool b)) s) : Wp (fIsX tk e s) E P := by
  unfold fIsX
  rw [h]
  exact ⟨hP⟩
theorem refused_ok {a : List PR} (m : Mv) (ha : a.length ≤ 100) (h : runs a [m] = none) (ob : List Ob1) : Spc F_law_refused [⟨.tuple (a.map pD), .fz, false⟩, ⟨mvD m, .fz, false⟩] ob D0 fun w as ob' => w = .f (.bool true) ∧ as = [none, none] ∧ ob' = ob := by
  refine spc (s := ⟨[some ⟨.tuple (a.map pD), .fz, false⟩, some ⟨mvD m, .fz, false⟩, none], ob⟩) rfl rfl ?_
  walk_at "ev"
  refine ws_tryX ?_
  walk_at "ev"
  refine ⟨Nat.le_of_ble_eq_true rfl, ?_⟩
  walk_at "ev"
  refine ⟨rfl, wp_callD (args_cons (lk_f rfl) (args_cons (lk_f rfl) args_nil)) rfl (moved_ok [m] (by rw [List.length_singleton]; omega) ob) ?_ ?_⟩
  · rintro e as ob' ⟨_, hb, rfl, rfl⟩
    unfold bad at hb
    subst hb
    refine ⟨by decide, Nat.le_of_ble_eq_true rfl, ?_⟩
    dsimp only [backS, wipeS, wipeL, List.set]
    walk_at "ev"
    refine wp_isx (b := true) (by decide) ?_
    exact ⟨_, rfl, rfl, rfl, rfl⟩
  · rintro w as ob' ⟨c, ec, _⟩
    rw [h] at ec
    cases ec
theorem wp_pairs {ds : List PyData} {l l2 : Bool} {a b : Nat} {ob : List Ob1} {sl : List (Option Vl)} {E : Xn → Sta → Prop} {P : Hd → Sta → Prop} (e : sl[b]? = some (some ⟨bxD ds a, .ls .fz, l⟩)) (hd : AllI ds) (h : ∀ ps a', OkP ps → ∀ sl', sl.set b (some ⟨bxD ds a', .ls .fz, l⟩) = sl' → P (.val (.f (.tuple (ps.map pD)))) ⟨sl', ob⟩) : ([.slot b, .val ⟨.int 7, .fz, l2⟩] : List Hd).length = 2 ∧ Wp (callD F_law_pairs ⟨sl, ob⟩ [.slot b, .val ⟨.int 7, .fz, l2⟩]) E P := by
  have o := own_at (ob := ob) e rfl
  refine ⟨rfl, wp_callD (args := [⟨bxD ds a, .ls .fz, l⟩, ⟨.int 7, .fz, l2⟩]) (args_cons (lk_s e rfl) (args_cons (lk_f rfl) args_nil)) ?_ (pairs_ok hd a ob) (fun _ _ _ z => False.elim z) ?_⟩
  · unfold lentS
    rw [o]
    rfl
  · rintro w as ob' ⟨v, a', r1, rfl, rfl, rfl⟩
    unfold backS
    rw [o]
    exact h v a' r1 _ rfl
theorem wp_near {ds : List PyData} {l : Bool} {a b : Nat} {ps : List PR} {ob : List Ob1} {sl : List (Option Vl)} {E : Xn → Sta → Prop} {P : Hd → Sta → Prop} (e : sl[b]? = some (some ⟨bxD ds a, .ls .fz, l⟩)) (hd : AllI ds) (hp : OkP ps) (h : ∀ qs a', OkP qs → ∀ sl', sl.set b (some ⟨bxD ds a', .ls .fz, l⟩) = sl' → P (.val (.f (.tuple (qs.map pD)))) ⟨sl', ob⟩) : ([.slot b, .val ⟨.tuple (ps.map pD), .fz, false⟩] : List Hd).length = 2 ∧ Wp (callD F_law_near ⟨sl, ob⟩ [.slot b, .val ⟨.tuple (ps.map pD), .fz, false⟩]) E P := by
  have o := own_at (ob := ob) e rfl
  refine ⟨rfl, wp_callD (args := [⟨bxD ds a, .ls .fz, l⟩, ⟨.tuple (ps.map pD), .fz, false⟩]) (args_cons (lk_s e rfl) (args_cons (lk_f rfl) args_nil)) ?_ (near_ok hd a hp ob) (fun _ _ _ z => False.elim z) ?_⟩
  · unfold lentS
    rw [o]
    rfl
  · rintro w as ob' ⟨v, a', r1, rfl, rfl, rfl⟩
    unfold backS
    rw [o]
    exact h v a' r1 _ rfl
theorem backS_1 {sl : List (Option Vl)} {ob : List Ob1} {i : Nat} {d : PyData} {l : Bool} {w : Vl} {x : Option Vl} (e : sl[i]? = some (some ⟨d, .ls .fz, l⟩)) : (backS ⟨sl, ob⟩ [.slot i, .val w] [some ⟨d, .ls .fz, true⟩, x]).sl = sl := by
  unfold backS
  rw [own_at e rfl]
  dsimp only [backS, Option.map]
  exact set_id e
theorem backS_2 {sl : List (Option Vl)} {ob : List Ob1} {i : Nat} {d : PyData} {l : Bool} {w : Vl} {x : Option Vl} (e : sl[i]? = some (some ⟨d, .ls .fz, l⟩)) : (backS ⟨sl, ob⟩ [.val w, .slot i] [x, some ⟨d, .ls .fz, true⟩]).sl = sl := by
  unfold backS
  (try dsimp only)
  unfold backS
  rw [own_at e rfl]
  dsimp only [backS, Option.map]
  exact set_id e
theorem run1 {a : List PR} {m : Mv} (h : beh a m = none) : runs a [m] = none := by
  show (beh a m).bind _ = none
  rw [h]
  rfl
theorem atR_no {a : List PR} {i : Int} (h : ¬ (0 ≤ i ∧ i < a.length)) : atR a i = none := if_neg h
theorem ref_out {a : List PR} {n : Int} (e : n = ((a.map pD).length : Int)) : runs a [.out n] = none := run1 (by
  rw [List.length_map] at e
  show (atR a n).map _ = none
  rw [atR_no (by omega)]
  rfl)
theorem ref_neg {a : List PR} : runs a [.out (-1)] = none := run1 (by
  show (atR a (-1)).map (fun _ => a.eraseIdx (-1 : Int).toNat) = none
  rw [atR_no (by omega)]
  rfl)
theorem ref_go1 {a : List PR} {n : Int} (e : n = ((a.map pD).length : Int)) : runs a [.go n 0] = none := run1 (by
  rw [List.length_map] at e
  show (atR a n).bind _ = none
  rw [atR_no (by omega)]
  rfl)
theorem ref_cel {a : List PR} {n : Int} {c : PyData} (e : n = ((a.map pD).length : Int)) : runs a [.cel n c] = none := run1 (by
  rw [List.length_map] at e
  show (atR a n).bind _ = none
  rw [atR_no (by omega)]
  rfl)
theorem ref_ins {a : List PR} {n : Int} {p : PR} (e : n = ((a.map pD).length : Int)) : runs a [.ins (n + 1) p] = none := run1 (by
  rw [List.length_map] at e
  show withR a (n + 1) p = none
  unfold withR
  rw [if_neg (by omega)])
theorem ref_go2 {a : List PR} {n : Int} (e : n = ((a.map pD).length : Int)) : runs a [.go 0 n] = none := run1 (by
  rw [List.length_map] at e
  show ((atR a 0).bind fun p => withR (a.eraseIdx 0) n p) = none
  by_cases h : 0 < a.length
  · rw [show atR a 0 = some a[0] from atR_at (i := 0) h]
    show withR (a.eraseIdx 0) n a[0] = none
    unfold withR
    rw [if_neg (by rw [List.length_eraseIdx_of_lt h]; omega)]
  · rw [atR_no (by omega)]
    rfl)
theorem ref_dup {a : List PR} {c : PyData} (h : 0 < a.length) : runs a [.ins 0 (a[0].1, c)] = none := run1 (by
  show withR a 0 (a[0].1, c) = none
  unfold withR
  rw [if_neg fun z => z.2 (List.mem_map.mpr ⟨a[0], List.getElem_mem h, rfl⟩)])
theorem pick {a : List PR} (ms : List Mv) (h : ∀ m ∈ ms, runs a [m] = none) {x : Int} (hx : 0 ≤ x) (hx2 : x < ((ms.length : Nat) : Int)) : ∃ m, runs a [m] = none ∧ atI (ms.map mvD) x = some (mvD m) := by
  obtain ⟨j, rfl⟩ : ∃ j : Nat, x = j := ⟨x.toNat, by omega⟩
  have lj : j < ms.length := by omega
  exact ⟨ms[j], h _ (List.getElem_mem lj), atI_nat (by rw [List.getElem?_map, List.getElem?_eq_getElem lj]; rfl)⟩
theorem law_ok (ns : List Int) : Spc F_law [scriptD ns] [] D0 fun w as ob' => w = .f (.bool true) := by
  refine spc (s := ⟨[some ⟨.list (ns.map PyData.int), .rd, false⟩, none, none, none, none, none, none, none], []⟩) rfl rfl ?_
  walk_at "ev"
  refine ⟨rfl, wp_callD (args_cons (lk_f rfl) (args_cons (lk_f rfl) (args_cons (lk_f rfl) args_nil))) rfl (digits_ok ns 0 45 (by omega) (by omega) []) (fun _ _ _ z => False.elim z) ?_⟩
  rintro w as ob' ⟨ds, hd, rfl, rfl, rfl⟩
  dsimp only [backS]
  walk_at "ev"
  refine ⟨Nat.le_of_ble_eq_true rfl, ?_⟩
  walk_at "ev"
  refine ws_for (fun k s => ∃ a x2 x3 x4 x5 x6 x7, s = ⟨[some ⟨.list (ns.map PyData.int), .rd, false⟩, some ⟨bxD ds a, .ls .fz, false⟩, x2, x3, x4, x5, x6, x7], []⟩ ∧ jk x2 = true ∧ jk x3 = true ∧ jk x4 = true ∧ jk x5 = true ∧ jk x6 = true ∧ jk x7 = true) (wi_rng1 ?_)
  walk_at "ev"
  refine ⟨_, _, _, rfl, rfl, ?_, ?_, ?_⟩
  · exact ⟨0, none, none, none, none, none, none, rfl, rfl, rfl, rfl, rfl, rfl, rfl⟩
  · rintro k s d hk ⟨a, x2, x3, x4, x5, x6, x7, rfl, j2, j3, j4, j5, j6, j7⟩
    obtain ⟨rfl, _⟩ := intsR_at2 hk
    walk_at "ev"
    refine wp_pairs rfl hd fun old a1 ho sl' es => ?_
    subst es
    walk_at "ev"
    refine wp_near rfl hd ho fun new0 a2 hn sl' es => ?_
    subst es
    walk_at "ev"
    have lo := ho.le
    walk_at "drw"
    intro q q0 q1
    walk_at "ev"
    refine ⟨fun h => ?_, fun h => ?_⟩
    · clear h
      walk_at "ev"
      refine wp_pairs rfl hd fun new1 a3 hn1 sl' es => ?_
      subst es
      walk_at "ev"
      have ln := hn1.le
      refine ⟨rfl, wp_callD (args_cons (lk_f rfl) (args_cons (lk_f rfl) args_nil)) rfl (moves_ok ho hn1 []) (fun _ _ _ z => False.elim z) ?_⟩
      rintro w as ob' ⟨rfl, rfl, rfl⟩
      dsimp only [backS]
      walk_at "ev"
      refine ⟨rfl, wp_callD (args_cons (lk_f rfl) (args_cons (lk_f rfl) args_nil)) rfl (made_ok ho hn1 []) (fun _ _ _ z => False.elim z) ?_⟩
      rintro w as ob' ⟨rfl, rfl, rfl⟩
      dsimp only [backS]
      walk_at "ev"
      refine ⟨rfl, wp_callD (args_cons (lk_s rfl rfl) (args_cons (lk_f rfl) args_nil)) rfl (same_ls (sml_allM ho hn1) []) (fun _ _ _ z => False.elim z) ?_⟩
      rintro w as ob' ⟨rfl, rfl, rfl⟩
      rw [backS_1 rfl]
      walk_at "ev"
      refine ⟨fun h => (by cases h), fun _ => ?_⟩
      walk_at "ev"
      refine ⟨rfl, wp_callD (args_cons (lk_f rfl) (args_cons (lk_s rfl rfl) args_nil)) rfl (moved_ok (allM old new1) (by have := (allM_ok ho hn1).2; omega) []) ?_ ?_⟩
      · rintro e as ob' ⟨n, _⟩
        rw [allM_runs ho hn1] at n
        cases n
      rintro w as ob' ⟨c, ec, rfl, rfl, rfl⟩
      rw [allM_runs ho hn1] at ec
      cases ec
      rw [backS_2 rfl]
      walk_at "ev"
      refine ⟨rfl, wp_callD (args_cons (lk_f rfl) (args_cons (lk_f rfl) args_nil)) rfl (same_fz (sml_rows hn1) []) (fun _ _ _ z => False.elim z) ?_⟩
      rintro w as ob' ⟨rfl, rfl, rfl⟩
      dsimp only [backS]
      walk_at "ev"
      refine ⟨fun h => (by cases h), fun _ => ?_⟩
      walk_at "ev"
      refine ⟨rfl, wp_callD (args_cons (lk_f rfl) (args_cons (lk_f rfl) args_nil)) rfl (moves_ok ho ho []) (fun _ _ _ z => False.elim z) ?_⟩
      rintro w as ob' ⟨rfl, rfl, rfl⟩
      dsimp only [backS]
      walk_at "ev"
      refine ⟨Nat.le_of_ble_eq_true rfl, ?_⟩
      walk_at "ev"
      rw [allM_self ho]
      walk_at "evm"
      case ze => exact g_neF (b := true) rfl rfl rfl
      walk_at "ev"
      refine ⟨fun h => (by cases h), fun _ => ?_⟩
      walk_at "ev"
      refine wb_mk (args_cons (lk_f rfl) args_nil) rfl ?_
      walk_at "ev"
      refine ⟨Nat.le_of_ble_eq_true rfl, ?_⟩
      walk_at "ev"
      refine ⟨Nat.le_of_ble_eq_true rfl, ?_⟩
      walk_at "ev"
      refine ⟨Nat.le_of_ble_eq_true rfl, ?_⟩
      walk_at "ev"
      refine ⟨Nat.le_of_ble_eq_true rfl, ?_⟩
      walk_at "ev"
      refine ⟨Nat.le_of_ble_eq_true rfl, ?_⟩
      walk_at "ev"
      refine ⟨Nat.le_of_ble_eq_true rfl, ?_⟩
      walk_at "ev"
      refine wp_neg ?_
      walk_at "ev"
      refine ⟨_, _, _, lk_f rfl, ?_⟩
      walk_at "ev"
      refine ⟨Nat.le_of_ble_eq_true rfl, ?_⟩
      walk_at "ev"
      refine ⟨Nat.le_of_ble_eq_true rfl, ?_⟩
      walk_at "ev"
      refine ⟨Nat.le_of_ble_eq_true rfl, ?_⟩
      walk_at "ev"
      refine ⟨fun h => ?_, fun h => ?_⟩
      · have pos : 0 < old.length := by
          have : (0 : Int) < ((old.map pD).length : Int) := of_decide_eq_true h
          rw [List.length_map] at this
          omega
        walk_at "ev"
        walk_at "evm"
        case ze => exact g_ixT (atI_nat (j := 0) (show (old.map pD)[0]? = some (pD old[0]) by rw [List.getElem?_map, List.getElem?_eq_getElem pos]; rfl))
        walk_at "ev"
        refine ⟨Nat.le_of_ble_eq_true rfl, ?_⟩
        walk_at "ev"
        refine ⟨Nat.le_of_ble_eq_true rfl, ?_⟩
        walk_at "ev"
        walk_at "evw"
        case zm => exact Z2.m_app (by (try simp only [List.length_map, List.length_append, List.length_cons, List.length_nil]); omega)
        case z2 => walk_at "evs"
        walk_at "ev"
        walk_at "drw"
        intro r r0 r1
        walk_at "ev"
        refine wb_mk (args_cons (lk_f rfl) args_nil) rfl ?_
        walk_at "ev"
        refine wb_mk (args_cons (lk_s rfl rfl) args_nil) rfl ?_
        have ps : (0 : Int) < (([Mv.out ((old.map pD).length : Int), Mv.go ((old.map pD).length : Int) 0, Mv.cel ((old.map pD).length : Int) (.tuple [.int 1]), Mv.ins (((old.map pD).length : Int) + 1) (77, .tuple [.int 1]), Mv.out (-1), Mv.go 0 ((old.map pD).length : Int), Mv.ins 0 (old[0].1, .tuple [.int 1])].length : Nat) : Int) := Int.ofNat_lt.mpr (Nat.zero_lt_succ _)
        walk_at "evm"
        case ze => exact g_mod ps
        obtain ⟨m, hm, em⟩ := pick (a := old) [Mv.out ((old.map pD).length : Int), Mv.go ((old.map pD).length : Int) 0, Mv.cel ((old.map pD).length : Int) (.tuple [.int 1]), Mv.ins (((old.map pD).length : Int) + 1) (77, .tuple [.int 1]), Mv.out (-1), Mv.go 0 ((old.map pD).length : Int), Mv.ins 0 (old[0].1, .tuple [.int 1])] (by
          intro m hm
          simp only [List.mem_cons, List.not_mem_nil, or_false] at hm
          rcases hm with rfl | rfl | rfl | rfl | rfl | rfl | rfl
          · exact ref_out rfl
          · exact ref_go1 rfl
          · exact ref_cel rfl
          · exact ref_ins rfl
          · exact ref_neg
          · exact ref_go2 rfl
          · exact ref_dup pos) (Int.emod_nonneg r (by omega)) (Int.emod_lt_of_pos r ps)
        walk_at "evm"
        case ze => exact g_ixL rfl em
        walk_at "ev"
        refine ⟨rfl, wp_callD (args_cons (lk_f rfl) (args_cons (lk_f rfl) args_nil)) rfl (refused_ok m (by omega) hm []) (fun _ _ _ z => False.elim z) ?_⟩
        rintro w as ob' ⟨rfl, rfl, rfl⟩
        dsimp only [backS]
        walk_at "ev"
        refine ⟨fun h => (by cases h), fun _ => ?_⟩
        walk_at "ev"
        exact ⟨_, _, _, _, _, _, _, rfl, rfl, rfl, rfl, rfl, rfl, rfl⟩
      · walk_at "ev"
        walk_at "drw"
        intro r r0 r1
        walk_at "ev"
        refine wb_mk (args_cons (lk_f rfl) args_nil) rfl ?_
        walk_at "ev"
        refine wb_mk (args_cons (lk_s rfl rfl) args_nil) rfl ?_
        have ps : (0 : Int) < (([Mv.out ((old.map pD).length : Int), Mv.go ((old.map pD).length : Int) 0, Mv.cel ((old.map pD).length : Int) (.tuple [.int 1]), Mv.ins (((old.map pD).length : Int) + 1) (77, .tuple [.int 1]), Mv.out (-1), Mv.go 0 ((old.map pD).length : Int)].length : Nat) : Int) := Int.ofNat_lt.mpr (Nat.zero_lt_succ _)
        walk_at "evm"
        case ze => exact g_mod ps
        obtain ⟨m, hm, em⟩ := pick (a := old) [Mv.out ((old.map pD).length : Int), Mv.go ((old.map pD).length : Int) 0, Mv.cel ((old.map pD).length : Int) (.tuple [.int 1]), Mv.ins (((old.map pD).length : Int) + 1) (77, .tuple [.int 1]), Mv.out (-1), Mv.go 0 ((old.map pD).length : Int)] (by
          intro m hm
          simp only [List.mem_cons, List.not_mem_nil, or_false] at hm
          rcases hm with rfl | rfl | rfl | rfl | rfl | rfl
          · exact ref_out rfl
          · exact ref_go1 rfl
          · exact ref_cel rfl
          · exact ref_ins rfl
          · exact ref_neg
          · exact ref_go2 rfl) (Int.emod_nonneg r (by omega)) (Int.emod_lt_of_pos r ps)
        walk_at "evm"
        case ze => exact g_ixL rfl em
        walk_at "ev"
        refine ⟨rfl, wp_callD (args_cons (lk_f rfl) (args_cons (lk_f rfl) args_nil)) rfl (refused_ok m (by omega) hm []) (fun _ _ _ z => False.elim z) ?_⟩
        rintro w as ob' ⟨rfl, rfl, rfl⟩
        dsimp only [backS]
        walk_at "ev"
        refine ⟨fun h => (by cases h), fun _ => ?_⟩
        walk_at "ev"
        exact ⟨_, _, _, _, _, _, _, rfl, rfl, rfl, rfl, rfl, rfl, rfl⟩
    · walk_at "ev"
      have ln := hn.le
      refine ⟨rfl, wp_callD (args_cons (lk_f rfl) (args_cons (lk_f rfl) args_nil)) rfl (moves_ok ho hn []) (fun _ _ _ z => False.elim z) ?_⟩
      rintro w as ob' ⟨rfl, rfl, rfl⟩
      dsimp only [backS]
      walk_at "ev"
      refine ⟨rfl, wp_callD (args_cons (lk_f rfl) (args_cons (lk_f rfl) args_nil)) rfl (made_ok ho hn []) (fun _ _ _ z => False.elim z) ?_⟩
      rintro w as ob' ⟨rfl, rfl, rfl⟩
      dsimp only [backS]
      walk_at "ev"
      refine ⟨rfl, wp_callD (args_cons (lk_s rfl rfl) (args_cons (lk_f rfl) args_nil)) rfl (same_ls (sml_allM ho hn) []) (fun _ _ _ z => False.elim z) ?_⟩
      rintro w as ob' ⟨rfl, rfl, rfl⟩
      rw [backS_1 rfl]
      walk_at "ev"
      refine ⟨fun h => (by cases h), fun _ => ?_⟩
      walk_at "ev"
      refine ⟨rfl, wp_callD (args_cons (lk_f rfl) (args_cons (lk_s rfl rfl) args_nil)) rfl (moved_ok (allM old new0) (by have := (allM_ok ho hn).2; omega) []) ?_ ?_⟩
      · rintro e as ob' ⟨n, _⟩
        rw [allM_runs ho hn] at n
        cases n
      rintro w as ob' ⟨c, ec, rfl, rfl, rfl⟩
      rw [allM_runs ho hn] at ec
      cases ec
      rw [backS_2 rfl]
      walk_at "ev"
      refine ⟨rfl, wp_callD (args_cons (lk_f rfl) (args_cons (lk_f rfl) args_nil)) rfl (same_fz (sml_rows hn) []) (fun _ _ _ z => False.elim z) ?_⟩
      rintro w as ob' ⟨rfl, rfl, rfl⟩
      dsimp only [backS]
      walk_at "ev"
      refine ⟨fun h => (by cases h), fun _ => ?_⟩
      walk_at "ev"
      refine ⟨rfl, wp_callD (args_cons (lk_f rfl) (args_cons (lk_f rfl) args_nil)) rfl (moves_ok ho ho []) (fun _ _ _ z => False.elim z) ?_⟩
      rintro w as ob' ⟨rfl, rfl, rfl⟩
      dsimp only [backS]
      walk_at "ev"
      refine ⟨Nat.le_of_ble_eq_true rfl, ?_⟩
      walk_at "ev"
      rw [allM_self ho]
      walk_at "evm"
      case ze => exact g_neF (b := true) rfl rfl rfl
      walk_at "ev"
      refine ⟨fun h => (by cases h), fun _ => ?_⟩
      walk_at "ev"
      refine wb_mk (args_cons (lk_f rfl) args_nil) rfl ?_
      walk_at "ev"
      refine ⟨Nat.le_of_ble_eq_true rfl, ?_⟩
      walk_at "ev"
      refine ⟨Nat.le_of_ble_eq_true rfl, ?_⟩
      walk_at "ev"
      refine ⟨Nat.le_of_ble_eq_true rfl, ?_⟩
      walk_at "ev"
      refine ⟨Nat.le_of_ble_eq_true rfl, ?_⟩
      walk_at "ev"
      refine ⟨Nat.le_of_ble_eq_true rfl, ?_⟩
      walk_at "ev"
      refine ⟨Nat.le_of_ble_eq_true rfl, ?_⟩
      walk_at "ev"
      refine wp_neg ?_
      walk_at "ev"
      refine ⟨_, _, _, lk_f rfl, ?_⟩
      walk_at "ev"
      refine ⟨Nat.le_of_ble_eq_true rfl, ?_⟩
      walk_at "ev"
      refine ⟨Nat.le_of_ble_eq_true rfl, ?_⟩
      walk_at "ev"
      refine ⟨Nat.le_of_ble_eq_true rfl, ?_⟩
      walk_at "ev"
      refine ⟨fun h => ?_, fun h => ?_⟩
      · have pos : 0 < old.length := by
          have : (0 : Int) < ((old.map pD).length : Int) := of_decide_eq_true h
          rw [List.length_map] at this
          omega
        walk_at "ev"
        walk_at "evm"
        case ze => exact g_ixT (atI_nat (j := 0) (show (old.map pD)[0]? = some (pD old[0]) by rw [List.getElem?_map, List.getElem?_eq_getElem pos]; rfl))
        walk_at "ev"
        refine ⟨Nat.le_of_ble_eq_true rfl, ?_⟩
        walk_at "ev"
        refine ⟨Nat.le_of_ble_eq_true rfl, ?_⟩
        walk_at "ev"
        walk_at "evw"
        case zm => exact Z2.m_app (by (try simp only [List.length_map, List.length_append, List.length_cons, List.length_nil]); omega)
        case z2 => walk_at "evs"
        walk_at "ev"
        walk_at "drw"
        intro r r0 r1
        walk_at "ev"
        refine wb_mk (args_cons (lk_f rfl) args_nil) rfl ?_
        walk_at "ev"
        refine wb_mk (args_cons (lk_s rfl rfl) args_nil) rfl ?_
        have ps : (0 : Int) < (([Mv.out ((old.map pD).length : Int), Mv.go ((old.map pD).length : Int) 0, Mv.cel ((old.map pD).length : Int) (.tuple [.int 1]), Mv.ins (((old.map pD).length : Int) + 1) (77, .tuple [.int 1]), Mv.out (-1), Mv.go 0 ((old.map pD).length : Int), Mv.ins 0 (old[0].1, .tuple [.int 1])].length : Nat) : Int) := Int.ofNat_lt.mpr (Nat.zero_lt_succ _)
        walk_at "evm"
        case ze => exact g_mod ps
        obtain ⟨m, hm, em⟩ := pick (a := old) [Mv.out ((old.map pD).length : Int), Mv.go ((old.map pD).length : Int) 0, Mv.cel ((old.map pD).length : Int) (.tuple [.int 1]), Mv.ins (((old.map pD).length : Int) + 1) (77, .tuple [.int 1]), Mv.out (-1), Mv.go 0 ((old.map pD).length : Int), Mv.ins 0 (old[0].1, .tuple [.int 1])] (by
          intro m hm
          simp only [List.mem_cons, List.not_mem_nil, or_false] at hm
          rcases hm with rfl | rfl | rfl | rfl | rfl | rfl | rfl
          · exact ref_out rfl
          · exact ref_go1 rfl
          · exact ref_cel rfl
          · exact ref_ins rfl
          · exact ref_neg
          · exact ref_go2 rfl
          · exact ref_dup pos) (Int.emod_nonneg r (by omega)) (Int.emod_lt_of_pos r ps)
        walk_at "evm"
        case ze => exact g_ixL rfl em
        walk_at "ev"
        refine ⟨rfl, wp_callD (args_cons (lk_f rfl) (args_cons (lk_f rfl) args_nil)) rfl (refused_ok m (by omega) hm []) (fun _ _ _ z => False.elim z) ?_⟩
        rintro w as ob' ⟨rfl, rfl, rfl⟩
        dsimp only [backS]
        walk_at "ev"
        refine ⟨fun h => (by cases h), fun _ => ?_⟩
        walk_at "ev"
        exact ⟨_, _, _, _, _, _, _, rfl, rfl, rfl, rfl, rfl, rfl, rfl⟩
      · walk_at "ev"
        walk_at "drw"
        intro r r0 r1
        walk_at "ev"
        refine wb_mk (args_cons (lk_f rfl) args_nil) rfl ?_
        walk_at "ev"
        refine wb_mk (args_cons (lk_s rfl rfl) args_nil) rfl ?_
        have ps : (0 : Int) < (([Mv.out ((old.map pD).length : Int), Mv.go ((old.map pD).length : Int) 0, Mv.cel ((old.map pD).length : Int) (.tuple [.int 1]), Mv.ins (((old.map pD).length : Int) + 1) (77, .tuple [.int 1]), Mv.out (-1), Mv.go 0 ((old.map pD).length : Int)].length : Nat) : Int) := Int.ofNat_lt.mpr (Nat.zero_lt_succ _)
        walk_at "evm"
        case ze => exact g_mod ps
        obtain ⟨m, hm, em⟩ := pick (a := old) [Mv.out ((old.map pD).length : Int), Mv.go ((old.map pD).length : Int) 0, Mv.cel ((old.map pD).length : Int) (.tuple [.int 1]), Mv.ins (((old.map pD).length : Int) + 1) (77, .tuple [.int 1]), Mv.out (-1), Mv.go 0 ((old.map pD).length : Int)] (by
          intro m hm
          simp only [List.mem_cons, List.not_mem_nil, or_false] at hm
          rcases hm with rfl | rfl | rfl | rfl | rfl | rfl
          · exact ref_out rfl
          · exact ref_go1 rfl
          · exact ref_cel rfl
          · exact ref_ins rfl
          · exact ref_neg
          · exact ref_go2 rfl) (Int.emod_nonneg r (by omega)) (Int.emod_lt_of_pos r ps)
        walk_at "evm"
        case ze => exact g_ixL rfl em
        walk_at "ev"
        refine ⟨rfl, wp_callD (args_cons (lk_f rfl) (args_cons (lk_f rfl) args_nil)) rfl (refused_ok m (by omega) hm []) (fun _ _ _ z => False.elim z) ?_⟩
        rintro w as ob' ⟨rfl, rfl, rfl⟩
        dsimp only [backS]
        walk_at "ev"
        refine ⟨fun h => (by cases h), fun _ => ?_⟩
        walk_at "ev"
        exact ⟨_, _, _, _, _, _, _, rfl, rfl, rfl, rfl, rfl, rfl, rfl⟩
  · rintro s ⟨a, x2, x3, x4, x5, x6, x7, rfl, _⟩
    walk_at "ev"
    exact ⟨_, rfl, rfl⟩
end Z2
namespace Z
open PySem PySem.Spec PyProof.Rows L2 GxR
/-! ### the text by places -/
def top (i : Nat) : Stmt := PySem.Challenge.pw_windowtable_k42_moves_lead.main.body.getD i (.Pass ⟨0, 0, 0, 0⟩)
abbrev s_law_cell : Stmt := top 10
abbrev s_law_digits : Stmt := top 11
abbrev s_law_draw : Stmt := top 12
abbrev s_law_value : Stmt := top 14
abbrev s_law_pairs : Stmt := top 16
abbrev s_law_near : Stmt := top 17
abbrev s_outs : Stmt := top 5
abbrev s_moves : Stmt := top 4
abbrev s_with_pair : Stmt := top 8
abbrev s_behind_move : Stmt := top 7
abbrev s_moved_by : Stmt := top 6
abbrev s_law_refused : Stmt := top 18
abbrev s_law_same : Stmt := top 13
abbrev s_law_made : Stmt := top 15
abbrev s_law : Stmt := top 19
/-! ### what the top leaves -/
def d_law_cell : He.DefD := ⟨("_law_cell", none), "_law_cell", "_law_cell", defArgs s_law_cell, defBody s_law_cell, defScope s_law_cell, [], []⟩
def d_law_digits : He.DefD := ⟨("_law_digits", none), "_law_digits", "_law_digits", defArgs s_law_digits, defBody s_law_digits, defScope s_law_digits, [], []⟩
def d_law_draw : He.DefD := ⟨("_law_draw", none), "_law_draw", "_law_draw", defArgs s_law_draw, defBody s_law_draw, defScope s_law_draw, [], []⟩
def d_law_value : He.DefD := ⟨("_law_value", none), "_law_value", "_law_value", defArgs s_law_value, defBody s_law_value, defScope s_law_value, [], []⟩
def d_law_pairs : He.DefD := ⟨("_law_pairs", none), "_law_pairs", "_law_pairs", defArgs s_law_pairs, defBody s_law_pairs, defScope s_law_pairs, [], []⟩
def d_law_near : He.DefD := ⟨("_law_near", none), "_law_near", "_law_near", defArgs s_law_near, defBody s_law_near, defScope s_law_near, [], []⟩
def d_outs : He.DefD := ⟨("outs", none), "outs", "outs", defArgs s_outs, defBody s_outs, defScope s_outs, [], []⟩
def d_moves : He.DefD := ⟨("moves", none), "moves", "moves", defArgs s_moves, defBody s_moves, defScope s_moves, [], []⟩
def d_with_pair : He.DefD := ⟨("with_pair", none), "with_pair", "with_pair", defArgs s_with_pair, defBody s_with_pair, defScope s_with_pair, [], []⟩
def d_behind_move : He.DefD := ⟨("behind_move", none), "behind_move", "behind_move", defArgs s_behind_move, defBody s_behind_move, defScope s_behind_move, [], []⟩
def d_moved_by : He.DefD := ⟨("moved_by", none), "moved_by", "moved_by", defArgs s_moved_by, defBody s_moved_by, defScope s_moved_by, [], []⟩
def d_law_refused : He.DefD := ⟨("_law_refused", none), "_law_refused", "_law_refused", defArgs s_law_refused, defBody s_law_refused, defScope s_law_refused, [], []⟩
def d_law_same : He.DefD := ⟨("_law_same", none), "_law_same", "_law_same", defArgs s_law_same, defBody s_law_same, defScope s_law_same, [], []⟩
def d_law_made : He.DefD := ⟨("_law_made", none), "_law_made", "_law_made", defArgs s_law_made, defBody s_law_made, defScope s_law_made, [], []⟩
def d_law : He.DefD := ⟨("law", none), "law", "law", defArgs s_law, defBody s_law, defScope s_law, [], []⟩
def fns : List He.DefD := [d_law_cell, d_law_digits, d_law_draw, d_law_value, d_law_pairs, d_law_near, d_outs, d_moves, d_with_pair, d_behind_move, d_moved_by, d_law_refused, d_law_same, d_law_made, d_law]
def fas : List He.Fa := [.glo "_law_cell", .glo "_law_digits", .glo "_law_draw", .glo "_law_value", .glo "_law_pairs", .glo "_law_near", .glo "outs", .glo "moves", .glo "with_pair", .glo "behind_move", .glo "moved_by", .glo "_law_refused", .glo "_law_same", .glo "_law_made", .glo "law", .glo "TableError", .glo "BadFit", .exc "BadFit", .free "len", .free "range", .free "int", .free "tuple", .free "list", .free "reversed", .free "enumerate", .free "ValueError", .free "isinstance", .free "repr"]
def tfs : List He.Defn := []
def exl (K : PySem.W.Frag) : List Bool := [clsB K (He.ga K "TableError") [],
  decide (PySem.W.kitOne K (.ref (He.ga K "TableError")) (.type "ValueError") = some true),
  clsB K (He.ga K "BadFit") [],
  decide (PySem.W.kitOne K (.ref (He.ga K "BadFit")) (.type "ValueError") = some true),
  takesB K (He.ga K "TableError") (He.ga K "TableError") true,
  takesB K (He.ga K "TableError") (He.ga K "BadFit") false,
  takesB K (He.ga K "BadFit") (He.ga K "TableError") true,
  takesB K (He.ga K "BadFit") (He.ga K "BadFit") true]
def exs (K : PySem.W.Frag) : Bool := (exl K).all id
abbrev R : PySem.W.OpenRow := PySem.W.OpenLaw.row PySem.Challenge.rw_windowtable_k42_moves_lead
abbrev hk : PySem.W.Hook := He.hookX 5 fas fns [] tfs exs
def ob (s : PySem.W.SharedT) : He.AlX := He.obsX 5 fas fns [] tfs exs (HandSHeadRun.getT s)
theorem run (w : World) : HandSHeadRun.RunEq R (PySem.W.view R.prog [19]) hk ob 6000 ["__name__", "TableError", "BadFit", "moves", "outs", "moved_by", "behind_move", "with_pair", "_law_cell", "_law_digits", "_law_draw", "_law_same", "_law_value", "_law_made", "_law_pairs", "_law_near", "_law_refused"] w := by
  intro os
  kernel_rfl
structure Tx (K : PySem.W.Frag) (mg : Str → Option Value) : Prop where
  d_law_cell : ∃ fd, FunD K "_law_cell" "_law_cell" (defArgs s_law_cell) (defBody s_law_cell) (defScope s_law_cell) [] [] (He.ga K "_law_cell") fd
  g_law_cell : mg "_law_cell" = some (.ref (He.ga K "_law_cell"))
  d_law_digits : ∃ fd, FunD K "_law_digits" "_law_digits" (defArgs s_law_digits) (defBody s_law_digits) (defScope s_law_digits) [] [] (He.ga K "_law_digits") fd
  g_law_digits : mg "_law_digits" = some (.ref (He.ga K "_law_digits"))
  d_law_draw : ∃ fd, FunD K "_law_draw" "_law_draw" (defArgs s_law_draw) (defBody s_law_draw) (defScope s_law_draw) [] [] (He.ga K "_law_draw") fd
  g_law_draw : mg "_law_draw" = some (.ref (He.ga K "_law_draw"))
  d_law_value : ∃ fd, FunD K "_law_value" "_law_value" (defArgs s_law_value) (defBody s_law_value) (defScope s_law_value) [] [] (He.ga K "_law_value") fd
  g_law_value : mg "_law_value" = some (.ref (He.ga K "_law_value"))
  d_law_pairs : ∃ fd, FunD K "_law_pairs" "_law_pairs" (defArgs s_law_pairs) (defBody s_law_pairs) (defScope s_law_pairs) [] [] (He.ga K "_law_pairs") fd
  g_law_pairs : mg "_law_pairs" = some (.ref (He.ga K "_law_pairs"))
  d_law_near : ∃ fd, FunD K "_law_near" "_law_near" (defArgs s_law_near) (defBody s_law_near) (defScope s_law_near) [] [] (He.ga K "_law_near") fd
  g_law_near : mg "_law_near" = some (.ref (He.ga K "_law_near"))
  d_outs : ∃ fd, FunD K "outs" "outs" (defArgs s_outs) (defBody s_outs) (defScope s_outs) [] [] (He.ga K "outs") fd
  g_outs : mg "outs" = some (.ref (He.ga K "outs"))
  d_moves : ∃ fd, FunD K "moves" "moves" (defArgs s_moves) (defBody s_moves) (defScope s_moves) [] [] (He.ga K "moves") fd
  g_moves : mg "moves" = some (.ref (He.ga K "moves"))
  d_with_pair : ∃ fd, FunD K "with_pair" "with_pair" (defArgs s_with_pair) (defBody s_with_pair) (defScope s_with_pair) [] [] (He.ga K "with_pair") fd
  g_with_pair : mg "with_pair" = some (.ref (He.ga K "with_pair"))
  d_behind_move : ∃ fd, FunD K "behind_move" "behind_move" (defArgs s_behind_move) (defBody s_behind_move) (defScope s_behind_move) [] [] (He.ga K "behind_move") fd
  g_behind_move : mg "behind_move" = some (.ref (He.ga K "behind_move"))
  d_moved_by : ∃ fd, FunD K "moved_by" "moved_by" (defArgs s_moved_by) (defBody s_moved_by) (defScope s_moved_by) [] [] (He.ga K "moved_by") fd
  g_moved_by : mg "moved_by" = some (.ref (He.ga K "moved_by"))
  d_law_refused : ∃ fd, FunD K "_law_refused" "_law_refused" (defArgs s_law_refused) (defBody s_law_refused) (defScope s_law_refused) [] [] (He.ga K "_law_refused") fd
  g_law_refused : mg "_law_refused" = some (.ref (He.ga K "_law_refused"))
  d_law_same : ∃ fd, FunD K "_law_same" "_law_same" (defArgs s_law_same) (defBody s_law_same) (defScope s_law_same) [] [] (He.ga K "_law_same") fd
  g_law_same : mg "_law_same" = some (.ref (He.ga K "_law_same"))
  d_law_made : ∃ fd, FunD K "_law_made" "_law_made" (defArgs s_law_made) (defBody s_law_made) (defScope s_law_made) [] [] (He.ga K "_law_made") fd
  g_law_made : mg "_law_made" = some (.ref (He.ga K "_law_made"))
  d_law : ∃ fd, FunD K "law" "law" (defArgs s_law) (defBody s_law) (defScope s_law) [] [] (He.ga K "law") fd
  g_law : mg "law" = some (.ref (He.ga K "law"))
  c_TableError : Cls1 K (He.ga K "TableError") []
  v_TableError : PySem.W.kitOne K (.ref (He.ga K "TableError")) (.type "ValueError") = some true
  c_BadFit : Cls1 K (He.ga K "BadFit") []
  v_BadFit : PySem.W.kitOne K (.ref (He.ga K "BadFit")) (.type "ValueError") = some true
  t_TableError_TableError : takesB K (He.ga K "TableError") (He.ga K "TableError") true = true
  t_TableError_BadFit : takesB K (He.ga K "TableError") (He.ga K "BadFit") false = true
  t_BadFit_TableError : takesB K (He.ga K "BadFit") (He.ga K "TableError") true = true
  t_BadFit_BadFit : takesB K (He.ga K "BadFit") (He.ga K "BadFit") true = true
  g_TableError : mg "TableError" = some (.ref (He.ga K "TableError"))
  g_BadFit : mg "BadFit" = some (.ref (He.ga K "BadFit"))
  x_BadFit : (He.Fa.exc "BadFit").ok K = true
  b_len : mg "len" = none
  b_range : mg "range" = none
  b_int : mg "int" = none
  b_tuple : mg "tuple" = none
  b_list : mg "list" = none
  b_reversed : mg "reversed" = none
  b_enumerate : mg "enumerate" = none
  b_ValueError : mg "ValueError" = none
  b_isinstance : mg "isinstance" = none
  b_repr : mg "repr" = none
theorem tx_of {w : World} {h : Heap} {K : PySem.W.Frag} {mg : Str → Option Value} (X : K.In h) (G : h.Ns mainGlobals mg) (c : He.SaysX fas fns [] tfs exs w h K) : Tx K mg :=
  ⟨(c.t.d.defs (d := d_law_cell) (by simp [fns])),
   (He.glo_ok X G (c.t.d.facts (f := .glo "_law_cell") (by simp [fas]))),
   (c.t.d.defs (d := d_law_digits) (by simp [fns])),
   (He.glo_ok X G (c.t.d.facts (f := .glo "_law_digits") (by simp [fas]))),
   (c.t.d.defs (d := d_law_draw) (by simp [fns])),
   (He.glo_ok X G (c.t.d.facts (f := .glo "_law_draw") (by simp [fas]))),
   (c.t.d.defs (d := d_law_value) (by simp [fns])),
   (He.glo_ok X G (c.t.d.facts (f := .glo "_law_value") (by simp [fas]))),
   (c.t.d.defs (d := d_law_pairs) (by simp [fns])),
   (He.glo_ok X G (c.t.d.facts (f := .glo "_law_pairs") (by simp [fas]))),
   (c.t.d.defs (d := d_law_near) (by simp [fns])),
   (He.glo_ok X G (c.t.d.facts (f := .glo "_law_near") (by simp [fas]))),
   (c.t.d.defs (d := d_outs) (by simp [fns])),
   (He.glo_ok X G (c.t.d.facts (f := .glo "outs") (by simp [fas]))),
   (c.t.d.defs (d := d_moves) (by simp [fns])),
   (He.glo_ok X G (c.t.d.facts (f := .glo "moves") (by simp [fas]))),
   (c.t.d.defs (d := d_with_pair) (by simp [fns])),
   (He.glo_ok X G (c.t.d.facts (f := .glo "with_pair") (by simp [fas]))),
   (c.t.d.defs (d := d_behind_move) (by simp [fns])),
   (He.glo_ok X G (c.t.d.facts (f := .glo "behind_move") (by simp [fas]))),
   (c.t.d.defs (d := d_moved_by) (by simp [fns])),
   (He.glo_ok X G (c.t.d.facts (f := .glo "moved_by") (by simp [fas]))),
   (c.t.d.defs (d := d_law_refused) (by simp [fns])),
   (He.glo_ok X G (c.t.d.facts (f := .glo "_law_refused") (by simp [fas]))),
   (c.t.d.defs (d := d_law_same) (by simp [fns])),
   (He.glo_ok X G (c.t.d.facts (f := .glo "_law_same") (by simp [fas]))),
   (c.t.d.defs (d := d_law_made) (by simp [fns])),
   (He.glo_ok X G (c.t.d.facts (f := .glo "_law_made") (by simp [fas]))),
   (c.t.d.defs (d := d_law) (by simp [fns])),
   (He.glo_ok X G (c.t.d.facts (f := .glo "law") (by simp [fas]))),
   (clsB_ok (all_at c.more 0 rfl)),
   (of_decide_eq_true (all_at c.more 1 rfl)),
   (clsB_ok (all_at c.more 2 rfl)),
   (of_decide_eq_true (all_at c.more 3 rfl)),
   ((all_at c.more 4 rfl)),
   ((all_at c.more 5 rfl)),
   ((all_at c.more 6 rfl)),
   ((all_at c.more 7 rfl)),
   (He.glo_ok X G (c.t.d.facts (f := .glo "TableError") (by simp [fas]))),
   (He.glo_ok X G (c.t.d.facts (f := .glo "BadFit") (by simp [fas]))),
   (c.t.d.facts (f := .exc "BadFit") (by simp [fas])),
   (He.free_ok X G (c.t.d.facts (f := .free "len") (by simp [fas]))),
   (He.free_ok X G (c.t.d.facts (f := .free "range") (by simp [fas]))),
   (He.free_ok X G (c.t.d.facts (f := .free "int") (by simp [fas]))),
   (He.free_ok X G (c.t.d.facts (f := .free "tuple") (by simp [fas]))),
   (He.free_ok X G (c.t.d.facts (f := .free "list") (by simp [fas]))),
   (He.free_ok X G (c.t.d.facts (f := .free "reversed") (by simp [fas]))),
   (He.free_ok X G (c.t.d.facts (f := .free "enumerate") (by simp [fas]))),
   (He.free_ok X G (c.t.d.facts (f := .free "ValueError") (by simp [fas]))),
   (He.free_ok X G (c.t.d.facts (f := .free "isinstance") (by simp [fas]))),
   (He.free_ok X G (c.t.d.facts (f := .free "repr") (by simp [fas])))⟩
theorem sc_law_cell : FnScope ["script", "k"] ["script", "k"] (defScope s_law_cell) := ⟨rfl, rfl, rfl, by decide +kernel, rfl, by decide +kernel, by decide +kernel⟩
theorem sc_law_digits : FnScope ["script", "first", "last", "digits", "k", "cell", "place", "seed"] ["script", "first", "last"] (defScope s_law_digits) := ⟨rfl, rfl, rfl, by decide +kernel, rfl, by decide +kernel, by decide +kernel⟩
theorem sc_law_draw : FnScope ["box", "many", "at"] ["box", "many"] (defScope s_law_draw) := ⟨rfl, rfl, rfl, by decide +kernel, rfl, by decide +kernel, by decide +kernel⟩
theorem sc_law_value : FnScope ["box", "kind"] ["box", "kind"] (defScope s_law_value) := ⟨rfl, rfl, rfl, by decide +kernel, rfl, by decide +kernel, by decide +kernel⟩
theorem sc_law_pairs : FnScope ["box", "most", "found", "k", "one", "pair"] ["box", "most"] (defScope s_law_pairs) := ⟨rfl, rfl, rfl, by decide +kernel, rfl, by decide +kernel, by decide +kernel⟩
theorem sc_law_near : FnScope ["box", "row", "found", "turn", "at", "pair"] ["box", "row"] (defScope s_law_near) := ⟨rfl, rfl, rfl, by decide +kernel, rfl, by decide +kernel, by decide +kernel⟩
theorem sc_outs : FnScope ["first", "staying", "told", "line", "place", "row_id", "_"] ["first", "staying"] (defScope s_outs) := ⟨rfl, rfl, rfl, by decide +kernel, rfl, by decide +kernel, by decide +kernel⟩
theorem sc_moves : FnScope ["first", "second", "told", "line", "cells_of", "place", "row_id", "cells", "here", "_"] ["first", "second"] (defScope s_moves) := ⟨rfl, rfl, rfl, by decide +kernel, rfl, by decide +kernel, by decide +kernel⟩
theorem sc_with_pair : FnScope ["line", "place", "pair", "row_id", "_"] ["line", "place", "pair"] (defScope s_with_pair) := ⟨rfl, rfl, rfl, by decide +kernel, rfl, by decide +kernel, by decide +kernel⟩
theorem sc_behind_move : FnScope ["line", "move", "word", "place", "row_id", "rest"] ["line", "move"] (defScope s_behind_move) := ⟨rfl, rfl, rfl, by decide +kernel, rfl, by decide +kernel, by decide +kernel⟩
theorem sc_moved_by : FnScope ["first", "moves", "line", "move"] ["first", "moves"] (defScope s_moved_by) := ⟨rfl, rfl, rfl, by decide +kernel, rfl, by decide +kernel, by decide +kernel⟩
theorem sc_law_refused : FnScope ["row", "one", "e"] ["row", "one"] (defScope s_law_refused) := ⟨rfl, rfl, rfl, by decide +kernel, rfl, by decide +kernel, by decide +kernel⟩
theorem sc_law_same : FnScope ["actual", "due"] ["actual", "due"] (defScope s_law_same) := ⟨rfl, rfl, rfl, by decide +kernel, rfl, by decide +kernel, by decide +kernel⟩
theorem sc_law_made : FnScope ["first", "second", "row", "found", "behind", "place", "one", "cells", "ids", "at", "pair"] ["first", "second"] (defScope s_law_made) := ⟨rfl, rfl, rfl, by decide +kernel, rfl, by decide +kernel, by decide +kernel⟩
theorem sc_law : FnScope ["script", "box", "turn", "first", "second", "told", "many", "wrong"] ["script"] (defScope s_law) := ⟨rfl, rfl, rfl, by decide +kernel, rfl, by decide +kernel, by decide +kernel⟩
end Z
namespace Z
open PySem PySem.Spec PyProof.Rows L2 GxR
theorem tk_x_TableError {K : PySem.W.Frag} {mg : Str → Option Value} (T : Tx K mg) : ∀ (x : Str) (b : Bool), (fun x : Str => (if x = "TableError" then some true else if x = "BadFit" then some true else none)) x = some b → PySem.W.exmOne K (.ref (He.ga K x)) (.ref (He.ga K "TableError")) = some b := by
  intro x b h
  dsimp only at h
  by_cases h_TableError : x = "TableError"
  · subst h_TableError
    rw [if_pos rfl] at h
    cases h
    exact (takes_at T.t_TableError_TableError).1
  rw [if_neg h_TableError] at h
  by_cases h_BadFit : x = "BadFit"
  · subst h_BadFit
    rw [if_pos rfl] at h
    cases h
    exact (takes_at T.t_BadFit_TableError).1
  rw [if_neg h_BadFit] at h
  cases h
theorem tk_i_BadFit {K : PySem.W.Frag} {mg : Str → Option Value} (T : Tx K mg) : ∀ (x : Str) (b : Bool), (fun x : Str => (if x = "TableError" then some false else if x = "BadFit" then some true else none)) x = some b → takesB K (He.ga K x) (He.ga K "BadFit") b = true ∧ ExcC K (He.ga K x) := by
  intro x b h
  dsimp only at h
  by_cases h_TableError : x = "TableError"
  · subst h_TableError
    rw [if_pos rfl] at h
    cases h
    exact ⟨T.t_TableError_BadFit, T.c_TableError.ec⟩
  rw [if_neg h_TableError] at h
  by_cases h_BadFit : x = "BadFit"
  · subst h_BadFit
    rw [if_pos rfl] at h
    cases h
    exact ⟨T.t_BadFit_BadFit, T.c_BadFit.ec⟩
  rw [if_neg h_BadFit] at h
  cases h
section
variable {P : Program} {w : World} {K : PySem.W.Frag} {mg : Str → Option Value} {base : Heap} {cs : List Addr}
theorem ok_law_cell (T : Tx K mg) : DefG P w K mg base (L2.CX P w) "_law_cell" 2 ["script", "k"] (spF K cs 2 F_law_cell) := by
  obtain ⟨fd, F⟩ := T.d_law_cell
  refine DefG.mkX (k := 1) F T.g_law_cell sc_law_cell (fun _ _ _ _ _ _ us hl => match us, hl with | [_, _], _ => rfl) (fun vs H Q E h => spF_len h) (fun cdv A outer s H vs Q E gu tk po hr h => ?_)
  exact reads_ok (n := 2) (m := 0) (cv := [])
    (pss_cons (ps_if (pt_cmpR (op_ltG hr.units0) (pv 1) (pe_callB call_lenF (by rfl) T.b_len bt_len (pa_cons (pv 0) pa_nil)) (nomark _)) (pss_one (ps_ret (pe_either (pe_ix ix_seq (pv 0) (pv 1) (fun _ _ => rfl)) (pe_dget (hu1 hr) (pv 0) (pv 1) (fun _ _ => rfl))))) pss_nil)
      (pss_one (ps_ret pe_int)))
    (by exact (fun B H f0 vs => (sem_seq (sem_if (sem_tv (sem_op ops_lt (sem_n (nin rfl)) (sem_b calls_len (sem_cons (sem_n (nin rfl)) sem_nil)))) (sem_ret (sem_sub (sem_n (nin rfl)) (sem_n (nin rfl)))) sem_next)
      (sem_ret sem_int)))) rfl h
theorem ok_law_digits (T : Tx K mg) (G_law_cell : DefG P w K mg base (L2.CX P w) "_law_cell" 2 ["script", "k"] (spF K cs 2 F_law_cell)) : DefG P w K mg base (L2.CX P w) "_law_digits" 3 ["script", "first", "last"] (spF K cs 3 F_law_digits) := by
  obtain ⟨fd, F⟩ := T.d_law_digits
  refine DefG.mkX (k := 2) F T.g_law_digits sc_law_digits (fun _ _ _ _ _ _ us hl => match us, hl with | [_, _, _], _ => rfl) (fun vs H Q E h => spF_len h) (fun cdv A outer s H vs Q E gu tk po hr h => ?_)
  exact reads_ok (n := 3) (m := 5) (cv := [])
    (pss_cons (ps_set (i := 3) sc_law_digits.nd rfl (Or.inl rfl) (pe_lst pa_nil))
      (pss_cons (ps_for po rfl (pi_range2 (by rfl) T.b_range (pa_cons (pv 1) (pa_cons (pv 2) pa_nil))) (pg_name (i := 4) sc_law_digits.nd rfl (Or.inl rfl)) (pss_cons (ps_set (i := 5) sc_law_digits.nd rfl (Or.inl rfl) (pe_calF G_law_cell (guards_deeper gu) tk (hr.mono (by decide)) rfl (pa_cons (pv 0) (pa_cons (pv 4) pa_nil))))
      (pss_cons (ps_if (pt_cmpR (op_ltG hr.units0) (pv 5) pe_int (nomark _)) (pss_one (ps_set (i := 5) sc_law_digits.nd rfl (Or.inl rfl) (pe_op op_subG pe_int (pe_op op_mulF pe_int (pv 5))))) pss_nil)
      (pss_one (ps_if (pt_cmpR op_geG (pv 5) (pe_op op_powG pe_int pe_int) (nomark _)) (pss_one (ps_for po rfl (pi_range1 (by rfl) T.b_range (pa_cons pe_int pa_nil)) (pg_name (i := 6) sc_law_digits.nd rfl (Or.inl rfl)) (pss_one (ps_if (pt_cmpR op_gtG (pv 5) pe_int (nomark _)) (pss_cons (ps_expr (pe_bm PySem.F.plainAttrs_list PySem.F.slot_list_append PySem.F.type_list_append mt_append (pv 3) (pa_cons (pe_op op_modG (pe_callTy call_intG (by rfl) T.b_int bt_int (pa_cons (pv 5) pa_nil)) pe_int) pa_nil)))
      (pss_one (ps_set (i := 5) sc_law_digits.nd rfl (Or.inl rfl) (pe_op op_divG (pv 5) pe_int)))) pss_nil)))) (pss_cons (ps_set (i := 7) sc_law_digits.nd rfl (Or.inl rfl) (pe_op op_modG (pe_callTy call_intG (by rfl) T.b_int bt_int (pa_cons (pe_op op_addF (pe_op op_addF (pe_op op_mulF (pv 5) pe_int) (pe_op op_mulF (pv 4) pe_int)) pe_int) pa_nil)) pe_int))
      (pss_one (ps_for po rfl (pi_range1 (by rfl) T.b_range (pa_cons pe_int pa_nil)) (pg_name (i := 6) sc_law_digits.nd rfl (Or.inl rfl)) (pss_cons (ps_set (i := 7) sc_law_digits.nd rfl (Or.inl rfl) (pe_op op_modG (pe_callTy call_intG (by rfl) T.b_int bt_int (pa_cons (pe_op op_addF (pe_op op_addF (pe_op op_mulF (pv 7) pe_int) (pe_op op_mulF pe_int (pv 6))) pe_int) pa_nil)) pe_int))
      (pss_one (ps_expr (pe_bm PySem.F.plainAttrs_list PySem.F.slot_list_append PySem.F.type_list_append mt_append (pv 3) (pa_cons (pe_op op_modG (pe_callTy call_intG (by rfl) T.b_int bt_int (pa_cons (pe_op op_divG (pv 7) pe_int) pa_nil)) pe_int) pa_nil)))))))))))))
      (pss_one (ps_ret (pv 3)))))
    (by exact (fun B H f0 vs => (sem_seq (sem_asg (sem_lst sem_nil) (semg_name XD.tt))
      (sem_seq (sem_for (sm_rng2 (sem_cons (sem_n (nin rfl)) (sem_cons (sem_n (nin rfl)) sem_nil))) (semg_name XD.tt) (sem_seq (sem_asg (sem_call (sem_cons (sem_n (nin rfl)) (sem_cons (sem_n (nin rfl)) sem_nil))) (semg_name XD.tt))
      (sem_seq (sem_if (sem_tv (sem_op ops_lt (sem_n (nin rfl)) sem_int)) (sem_asg (sem_op ops_sub sem_int (sem_op ops_mul sem_int (sem_n (nin rfl)))) (semg_name XD.tt)) sem_next)
      (sem_if (sem_tv (sem_op ops_ge (sem_n (nin rfl)) (sem_op ops_pow sem_int sem_int))) (sem_for (sm_rng1 (sem_cons sem_int sem_nil)) (semg_name XD.tt) (sem_if (sem_tv (sem_op ops_gt (sem_n (nin rfl)) sem_int)) (sem_seq (sem_drop (sem_lm met_append (nin rfl) (sem_cons (sem_op ops_mod (sem_b calls_int (sem_cons (sem_n (nin rfl)) sem_nil)) sem_int) sem_nil)))
      (sem_asg (sem_op ops_div (sem_n (nin rfl)) sem_int) (semg_name XD.tt))) sem_next)) (sem_seq (sem_asg (sem_op ops_mod (sem_b calls_int (sem_cons (sem_op ops_add (sem_op ops_add (sem_op ops_mul (sem_n (nin rfl)) sem_int) (sem_op ops_mul (sem_n (nin rfl)) sem_int)) sem_int) sem_nil)) sem_int) (semg_name XD.tt))
      (sem_for (sm_rng1 (sem_cons sem_int sem_nil)) (semg_name XD.tt) (sem_seq (sem_asg (sem_op ops_mod (sem_b calls_int (sem_cons (sem_op ops_add (sem_op ops_add (sem_op ops_mul (sem_n (nin rfl)) sem_int) (sem_op ops_mul sem_int (sem_n (nin rfl)))) sem_int) sem_nil)) sem_int) (semg_name XD.tt))
      (sem_drop (sem_lm met_append (nin rfl) (sem_cons (sem_op ops_mod (sem_b calls_int (sem_cons (sem_op ops_div (sem_n (nin rfl)) sem_int) sem_nil)) sem_int) sem_nil))))))))))
      (sem_ret (sem_n (nin rfl))))))) rfl h
theorem ok_law_draw (T : Tx K mg) : DefG P w K mg base (L2.CX P w) "_law_draw" 2 ["box", "many"] (spF K cs 2 F_law_draw) := by
  obtain ⟨fd, F⟩ := T.d_law_draw
  refine DefG.mkX (k := 1) F T.g_law_draw sc_law_draw (fun _ _ _ _ _ _ us hl => match us, hl with | [_, _], _ => rfl) (fun vs H Q E h => spF_len h) (fun cdv A outer s H vs Q E gu tk po hr h => ?_)
  exact reads_ok (n := 2) (m := 1) (cv := [])
    (pss_cons (ps_set (i := 2) sc_law_draw.nd rfl (Or.inl rfl) (pe_either (pe_ix ix_seq (pv 0) pe_int (fun _ _ => rfl)) (pe_dget (hu1 hr) (pv 0) pe_int (fun _ _ => rfl))))
      (pss_cons (ps_either (ps_asg (pe_op op_addF (pv 2) pe_int) (pg_sub (pv 0) pe_int set_list)) (ps_dput (hu1 hr) (pv 0) pe_int (pe_op op_addF (pv 2) pe_int) rfl))
      (pss_cons (ps_if (pt_cmpR (op_ltG hr.units0) (pv 2) (pe_callB call_lenF (by rfl) T.b_len bt_len (pa_cons (pe_either (pe_ix ix_seq (pv 0) pe_int (fun _ _ => rfl)) (pe_dget (hu1 hr) (pv 0) pe_int (fun _ _ => rfl))) pa_nil)) (nomark _)) (pss_one (ps_ret (pe_op op_modG (pe_callTy call_intG (by rfl) T.b_int bt_int (pa_cons (pe_either (pe_ix ix_seq (pe_either (pe_ix ix_seq (pv 0) pe_int (fun _ _ => rfl)) (pe_dget (hu1 hr) (pv 0) pe_int (fun _ _ => rfl))) (pv 2) (fun _ _ => rfl)) (pe_dget (hu1 hr) (pe_either (pe_ix ix_seq (pv 0) pe_int (fun _ _ => rfl)) (pe_dget (hu1 hr) (pv 0) pe_int (fun _ _ => rfl))) (pv 2) (fun _ _ => rfl))) pa_nil)) (pv 1)))) pss_nil)
      (pss_one (ps_ret (pe_op op_modG (pe_callTy call_intG (by rfl) T.b_int bt_int (pa_cons (pe_op op_addF (pe_op op_mulF (pv 2) pe_int) pe_int) pa_nil)) (pv 1)))))))
    (by exact (fun B H f0 vs => (sem_seq (sem_asg (sem_sub (sem_n (nin rfl)) sem_int) (semg_name XD.tt))
      (sem_seq (sem_store (nin rfl) (fun _ => sem_int) (sem_op ops_add (sem_n (nin rfl)) sem_int))
      (sem_seq (sem_if (sem_tv (sem_op ops_lt (sem_n (nin rfl)) (sem_b calls_len (sem_cons (sem_sub (sem_n (nin rfl)) sem_int) sem_nil)))) (sem_ret (sem_op ops_mod (sem_b calls_int (sem_cons (sem_sub (sem_sub (sem_n (nin rfl)) sem_int) (sem_n (nin rfl))) sem_nil)) (sem_n (nin rfl)))) sem_next)
      (sem_ret (sem_op ops_mod (sem_b calls_int (sem_cons (sem_op ops_add (sem_op ops_mul (sem_n (nin rfl)) sem_int) sem_int) sem_nil)) (sem_n (nin rfl))))))))) rfl h
theorem ok_law_value (T : Tx K mg) (G_law_draw : DefG P w K mg base (L2.CX P w) "_law_draw" 2 ["box", "many"] (spF K cs 2 F_law_draw)) : DefG P w K mg base (L2.CX P w) "_law_value" 3 ["box", "kind"] (spF K cs 2 F_law_value) := by
  obtain ⟨fd, F⟩ := T.d_law_value
  refine DefG.mkX (k := 2) F T.g_law_value sc_law_value (fun _ _ _ _ _ _ us hl => match us, hl with | [_, _], _ => rfl) (fun vs H Q E h => spF_len h) (fun cdv A outer s H vs Q E gu tk po hr h => ?_)
  exact reads_ok (n := 2) (m := 0) (cv := [])
    (pss_cons (ps_if (pt_cmpR (op_eqG hr.units) (pe_calF G_law_draw (guards_deeper gu) tk (hr.mono (by decide)) rfl (pa_cons (pv 0) (pa_cons pe_int pa_nil))) pe_int (nomark _)) (pss_one (ps_ret pe_non)) pss_nil)
      (pss_cons (ps_if (pt_cmpR (op_eqG hr.units) (pv 1) pe_str (nomark _)) (pss_one (ps_ret (pe_either (pe_ix ix_seq (pe_lst (pa_cons pe_str (pa_cons pe_str (pa_cons pe_str (pa_cons pe_str pa_nil))))) (pe_calF G_law_draw (guards_deeper gu) tk (hr.mono (by decide)) rfl (pa_cons (pv 0) (pa_cons pe_int pa_nil))) (fun _ _ => rfl)) (pe_dget (hu1 hr) (pe_lst (pa_cons pe_str (pa_cons pe_str (pa_cons pe_str (pa_cons pe_str pa_nil))))) (pe_calF G_law_draw (guards_deeper gu) tk (hr.mono (by decide)) rfl (pa_cons (pv 0) (pa_cons pe_int pa_nil))) (fun _ _ => rfl))))) pss_nil)
      (pss_one (ps_ret (pe_either (pe_ix ix_seq (pe_lst (pa_cons (pe_calF G_law_draw (guards_deeper gu) tk (hr.mono (by decide)) rfl (pa_cons (pv 0) (pa_cons pe_int pa_nil))) (pa_cons (pe_op op_subG (pe_calF G_law_draw (guards_deeper gu) tk (hr.mono (by decide)) rfl (pa_cons (pv 0) (pa_cons pe_int pa_nil))) pe_int) (pa_cons (pe_op op_subG (pe_calF G_law_draw (guards_deeper gu) tk (hr.mono (by decide)) rfl (pa_cons (pv 0) (pa_cons pe_int pa_nil))) pe_int) pa_nil)))) (pe_calF G_law_draw (guards_deeper gu) tk (hr.mono (by decide)) rfl (pa_cons (pv 0) (pa_cons pe_int pa_nil))) (fun _ _ => rfl)) (pe_dget (hu1 hr) (pe_lst (pa_cons (pe_calF G_law_draw (guards_deeper gu) tk (hr.mono (by decide)) rfl (pa_cons (pv 0) (pa_cons pe_int pa_nil))) (pa_cons (pe_op op_subG (pe_calF G_law_draw (guards_deeper gu) tk (hr.mono (by decide)) rfl (pa_cons (pv 0) (pa_cons pe_int pa_nil))) pe_int) (pa_cons (pe_op op_subG (pe_calF G_law_draw (guards_deeper gu) tk (hr.mono (by decide)) rfl (pa_cons (pv 0) (pa_cons pe_int pa_nil))) pe_int) pa_nil)))) (pe_calF G_law_draw (guards_deeper gu) tk (hr.mono (by decide)) rfl (pa_cons (pv 0) (pa_cons pe_int pa_nil))) (fun _ _ => rfl)))))))
    (by exact (fun B H f0 vs => (sem_seq (sem_if (sem_tv (sem_op ops_eq (sem_call (sem_cons (sem_n (nin rfl)) (sem_cons sem_int sem_nil))) sem_int)) (sem_ret sem_non) sem_next)
      (sem_seq (sem_if (sem_tv (sem_op ops_eq (sem_n (nin rfl)) sem_str)) (sem_ret (sem_sub (sem_lst (sem_cons sem_str (sem_cons sem_str (sem_cons sem_str (sem_cons sem_str sem_nil))))) (sem_call (sem_cons (sem_n (nin rfl)) (sem_cons sem_int sem_nil))))) sem_next)
      (sem_ret (sem_sub (sem_lst (sem_cons (sem_call (sem_cons (sem_n (nin rfl)) (sem_cons sem_int sem_nil))) (sem_cons (sem_op ops_sub (sem_call (sem_cons (sem_n (nin rfl)) (sem_cons sem_int sem_nil))) sem_int) (sem_cons (sem_op ops_sub (sem_call (sem_cons (sem_n (nin rfl)) (sem_cons sem_int sem_nil))) sem_int) sem_nil)))) (sem_call (sem_cons (sem_n (nin rfl)) (sem_cons sem_int sem_nil))))))))) rfl h
theorem ok_law_pairs (T : Tx K mg) (G_law_draw : DefG P w K mg base (L2.CX P w) "_law_draw" 2 ["box", "many"] (spF K cs 2 F_law_draw)) (G_law_value : DefG P w K mg base (L2.CX P w) "_law_value" 3 ["box", "kind"] (spF K cs 2 F_law_value)) : DefG P w K mg base (L2.CX P w) "_law_pairs" 4 ["box", "most"] (spF K cs 2 F_law_pairs) := by
  obtain ⟨fd, F⟩ := T.d_law_pairs
  refine DefG.mkX (k := 3) F T.g_law_pairs sc_law_pairs (fun _ _ _ _ _ _ us hl => match us, hl with | [_, _], _ => rfl) (fun vs H Q E h => spF_len h) (fun cdv A outer s H vs Q E gu tk po hr h => ?_)
  exact reads_ok (n := 2) (m := 4) (cv := [5])
    (pss_cons (ps_set (i := 2) sc_law_pairs.nd rfl (Or.inl rfl) (pe_lst pa_nil))
      (pss_cons (ps_for po rfl (pi_range1 (by rfl) T.b_range (pa_cons (pe_calF G_law_draw (guards_deeper gu) tk (hr.mono (by decide)) rfl (pa_cons (pv 0) (pa_cons (pe_op op_addF (pv 1) pe_int) pa_nil))) pa_nil)) (pg_name (i := 3) sc_law_pairs.nd rfl (Or.inl rfl)) (pss_cons (ps_set (i := 4) sc_law_pairs.nd rfl (Or.inl rfl) (pe_op op_addF pe_int (pe_calF G_law_draw (guards_deeper gu) tk (hr.mono (by decide)) rfl (pa_cons (pv 0) (pa_cons pe_int pa_nil)))))
      (pss_one (ps_if (pt_either (pt_cmpR op_ninG (pv 4) (pe_lc (own := [("pair", 5)]) rfl sc_law_pairs.nd (pi_seq (pi_list (pv 2)) (pi_tup (pv 2)) (pi_str (pv 2))) (blkOk_by (own := [("pair", 5)]) (N := ["box", "most", "found", "k", "one", "pair"]) (sc := defScope s_law_pairs) (by decide +kernel)) (fun _ _ _ _ _ => (pg_name (i := 5) sc_law_pairs.nd rfl (Or.inl rfl))) (fun _ _ _ _ _ => pts_nil) (fun _ _ _ _ _ => (pe_either (pe_ix (ixK (K := K) (r := rIx) rfl ix_seq) (pv 5) pe_int (fun _ _ => rfl)) (pe_dget (hu1 hr) (pv 5) pe_int (fun _ _ => rfl))))) (by rfl)) (pt_cmp (pc_dnotin (hu1 hr) (pv 4) (pe_lc (own := [("pair", 5)]) rfl sc_law_pairs.nd (pi_seq (pi_list (pv 2)) (pi_tup (pv 2)) (pi_str (pv 2))) (blkOk_by (own := [("pair", 5)]) (N := ["box", "most", "found", "k", "one", "pair"]) (sc := defScope s_law_pairs) (by decide +kernel)) (fun _ _ _ _ _ => (pg_name (i := 5) sc_law_pairs.nd rfl (Or.inl rfl))) (fun _ _ _ _ _ => pts_nil) (fun _ _ _ _ _ => (pe_either (pe_ix (ixK (K := K) (r := rIx) rfl ix_seq) (pv 5) pe_int (fun _ _ => rfl)) (pe_dget (hu1 hr) (pv 5) pe_int (fun _ _ => rfl)))))))) (pss_one (ps_expr (pe_bm PySem.F.plainAttrs_list PySem.F.slot_list_append PySem.F.type_list_append mt_append (pv 2) (pa_cons (pe_tup (pa_cons (pv 4) (pa_cons (pe_tup (pa_cons (pe_calF G_law_value (guards_deeper gu) tk (hr.mono (by decide)) rfl (pa_cons (pv 0) (pa_cons pe_str pa_nil))) pa_nil)) pa_nil))) pa_nil)))) pss_nil))))
      (pss_one (ps_ret (pe_callTy call_tupF (by rfl) T.b_tuple bt_tuple (pa_cons (pv 2) pa_nil))))))
    (by exact (fun B H f0 vs => (sem_seq (sem_asg (sem_lst sem_nil) (semg_name XD.tt))
      (sem_seq (sem_for (sm_rng1 (sem_cons (sem_call (sem_cons (sem_n (nin rfl)) (sem_cons (sem_op ops_add (sem_n (nin rfl)) sem_int) sem_nil))) sem_nil)) (semg_name XD.tt) (sem_seq (sem_asg (sem_op ops_add sem_int (sem_call (sem_cons (sem_n (nin rfl)) (sem_cons sem_int sem_nil)))) (semg_name XD.tt))
      (sem_if (sem_tv (sem_nin (sem_n (nin rfl)) (sem_lcN (vs := [5]) (semg_name XD.tt) sem_yes (sem_sub sem_nv sem_int) (by exact sub_of rfl) (sub_of rfl) XD.tt (nin rfl)))) (sem_drop (sem_lm met_append (nin rfl) (sem_cons (sem_tup (sem_cons (sem_n (nin rfl)) (sem_cons (sem_tup (sem_cons (sem_call (sem_cons (sem_n (nin rfl)) (sem_cons sem_str sem_nil))) sem_nil)) sem_nil))) sem_nil))) sem_next)))
      (sem_ret (sem_b calls_tuple (sem_cons (sem_n (nin rfl)) sem_nil))))))) rfl h
theorem ok_law_near (T : Tx K mg) (G_law_draw : DefG P w K mg base (L2.CX P w) "_law_draw" 2 ["box", "many"] (spF K cs 2 F_law_draw)) : DefG P w K mg base (L2.CX P w) "_law_near" 3 ["box", "row"] (spF K cs 2 F_law_near) := by
  obtain ⟨fd, F⟩ := T.d_law_near
  refine DefG.mkX (k := 2) F T.g_law_near sc_law_near (fun _ _ _ _ _ _ us hl => match us, hl with | [_, _], _ => rfl) (fun vs H Q E h => spF_len h) (fun cdv A outer s H vs Q E gu tk po hr h => ?_)
  exact reads_ok (n := 2) (m := 4) (cv := [])
    (pss_cons (ps_set (i := 2) sc_law_near.nd rfl (Or.inl rfl) (pe_callTy call_listF (by rfl) T.b_list bt_list (pa_cons (pv 1) pa_nil)))
      (pss_cons (ps_for po rfl (pi_range1 (by rfl) T.b_range (pa_cons (pe_calF G_law_draw (guards_deeper gu) tk (hr.mono (by decide)) rfl (pa_cons (pv 0) (pa_cons pe_int pa_nil))) pa_nil)) (pg_name (i := 3) sc_law_near.nd rfl (Or.inl rfl)) (pss_one (ps_if (pt_cmpR op_gtG (pe_callB call_lenF (by rfl) T.b_len bt_len (pa_cons (pv 2) pa_nil)) pe_int (nomark _)) (pss_cons (ps_set (i := 4) sc_law_near.nd rfl (Or.inl rfl) (pe_op op_modG (pe_callTy call_intG (by rfl) T.b_int bt_int (pa_cons (pe_calF G_law_draw (guards_deeper gu) tk (hr.mono (by decide)) rfl (pa_cons (pv 0) (pa_cons pe_int pa_nil))) pa_nil)) (pe_callB call_lenF (by rfl) T.b_len bt_len (pa_cons (pv 2) pa_nil))))
      (pss_cons (ps_set (i := 5) sc_law_near.nd rfl (Or.inl rfl) (pe_bm PySem.F.plainAttrs_list PySem.F.slot_list_pop PySem.F.type_list_pop mt_popAt (pv 2) (pa_cons (pv 4) pa_nil)))
      (pss_one (ps_if (pt_cmpR op_gtG (pe_calF G_law_draw (guards_deeper gu) tk (hr.mono (by decide)) rfl (pa_cons (pv 0) (pa_cons pe_int pa_nil))) pe_int (nomark _)) (pss_one (ps_expr (pe_bm PySem.F.plainAttrs_list PySem.F.slot_list_insert PySem.F.type_list_insert mt_insert (pv 2) (pa_cons (pe_op op_modG (pe_callTy call_intG (by rfl) T.b_int bt_int (pa_cons (pe_calF G_law_draw (guards_deeper gu) tk (hr.mono (by decide)) rfl (pa_cons (pv 0) (pa_cons pe_int pa_nil))) pa_nil)) (pe_op op_addF (pe_callB call_lenF (by rfl) T.b_len bt_len (pa_cons (pv 2) pa_nil)) pe_int)) (pa_cons (pv 5) pa_nil))))) pss_nil)))) pss_nil)))
      (pss_one (ps_ret (pe_callTy call_tupF (by rfl) T.b_tuple bt_tuple (pa_cons (pv 2) pa_nil))))))
    (by exact (fun B H f0 vs => (sem_seq (sem_asg (sem_b calls_list (sem_cons (sem_n (nin rfl)) sem_nil)) (semg_name XD.tt))
      (sem_seq (sem_for (sm_rng1 (sem_cons (sem_call (sem_cons (sem_n (nin rfl)) (sem_cons sem_int sem_nil))) sem_nil)) (semg_name XD.tt) (sem_if (sem_tv (sem_op ops_gt (sem_b calls_len (sem_cons (sem_n (nin rfl)) sem_nil)) sem_int)) (sem_seq (sem_asg (sem_op ops_mod (sem_b calls_int (sem_cons (sem_call (sem_cons (sem_n (nin rfl)) (sem_cons sem_int sem_nil))) sem_nil)) (sem_b calls_len (sem_cons (sem_n (nin rfl)) sem_nil))) (semg_name XD.tt))
      (sem_seq (sem_asg (sem_lm met_popAt (nin rfl) (sem_cons (sem_n (nin rfl)) sem_nil)) (semg_name XD.tt))
      (sem_if (sem_tv (sem_op ops_gt (sem_call (sem_cons (sem_n (nin rfl)) (sem_cons sem_int sem_nil))) sem_int)) (sem_drop (sem_lm met_insert (nin rfl) (sem_cons (sem_op ops_mod (sem_b calls_int (sem_cons (sem_call (sem_cons (sem_n (nin rfl)) (sem_cons sem_int sem_nil))) sem_nil)) (sem_op ops_add (sem_b calls_len (sem_cons (sem_n (nin rfl)) sem_nil)) sem_int)) (sem_cons (sem_n (nin rfl)) sem_nil)))) sem_next))) sem_next))
      (sem_ret (sem_b calls_tuple (sem_cons (sem_n (nin rfl)) sem_nil))))))) rfl h
theorem ok_outs (T : Tx K mg) : DefG P w K mg base (L2.CX P w) "outs" 2 ["first", "staying"] (spF K cs 2 F_outs) := by
  obtain ⟨fd, F⟩ := T.d_outs
  refine DefG.mkX (k := 1) F T.g_outs sc_outs (fun _ _ _ _ _ _ us hl => match us, hl with | [_, _], _ => rfl) (fun vs H Q E h => spF_len h) (fun cdv A outer s H vs Q E gu tk po hr h => ?_)
  exact reads_ok (n := 2) (m := 5) (cv := [5, 6])
    (pss_cons (ps_set (i := 2) sc_outs.nd rfl (Or.inl rfl) (pe_lst pa_nil))
      (pss_cons (ps_setLc (i := 3) (own := [("row_id", 5), ("_", 6)]) rfl sc_outs.nd rfl rfl (sw_true rfl rfl rfl (by decide +kernel)) (pi_seq (pi_list (pv 0)) (pi_tup (pv 0)) (pi_str (pv 0))) (blkOk_by (own := [("row_id", 5), ("_", 6)]) (N := ["first", "staying", "told", "line", "place", "row_id", "_"]) (sc := defScope s_outs) (by decide +kernel)) (fun _ _ _ _ _ => (pg_tupK (n := 2) (K := K) rfl rfl (pgs_cons (pg_name (i := 5) sc_outs.nd rfl (Or.inl rfl)) (pgs_cons (pg_name (i := 6) sc_outs.nd rfl (Or.inl rfl)) pgs_nil)))) (fun _ _ _ _ _ => pts_nil) (fun _ _ _ _ _ => (pv 5)))
      (pss_cons (ps_for po rfl (pi_revR (by rfl) T.b_reversed (prg_1 (by rfl) T.b_range (pe_callB call_lenF (by rfl) T.b_len bt_len (pa_cons (pv 0) pa_nil)))) (pg_name (i := 4) sc_outs.nd rfl (Or.inl rfl)) (pss_one (ps_if (pt_either (pt_cmpR op_ninG (pe_either (pe_ix ix_seq (pv 3) (pv 4) (fun _ _ => rfl)) (pe_dget (hu1 hr) (pv 3) (pv 4) (fun _ _ => rfl))) (pv 1) (by rfl)) (pt_cmp (pc_dnotin (hu1 hr) (pe_either (pe_ix ix_seq (pv 3) (pv 4) (fun _ _ => rfl)) (pe_dget (hu1 hr) (pv 3) (pv 4) (fun _ _ => rfl))) (pv 1)))) (pss_cons (ps_expr (pe_bm PySem.F.plainAttrs_list PySem.F.slot_list_append PySem.F.type_list_append mt_append (pv 2) (pa_cons (pe_tup (pa_cons pe_str (pa_cons (pv 4) pa_nil))) pa_nil)))
      (pss_one (ps_expr (pe_bm PySem.F.plainAttrs_list PySem.F.slot_list_pop PySem.F.type_list_pop mt_popAt (pv 3) (pa_cons (pv 4) pa_nil))))) pss_nil)))
      (pss_one (ps_ret (pe_tup (pa_cons (pv 2) (pa_cons (pv 3) pa_nil))))))))
    (by exact (fun B H f0 vs => (sem_seq (sem_asg (sem_lst sem_nil) (semg_name XD.tt))
      (sem_seq (sem_asg (sem_lcN (vs := [5, 6]) (sm_gtup (sm_gcons (semg_name XD.tt) (sm_gcons (semg_name XD.tt) sm_gnil))) sem_yes sem_nv (by exact sub_of rfl) (sub_of rfl) XD.tt (nin rfl)) (semg_name XD.tt))
      (sem_seq (sem_for (sem_rev1 (sem_b calls_len (sem_cons (sem_n (nin rfl)) sem_nil))) (semg_name XD.tt) (sem_if (sem_tv (sem_nin (sem_sub (sem_n (nin rfl)) (sem_n (nin rfl))) (sem_n (nin rfl)))) (sem_seq (sem_drop (sem_lm met_append (nin rfl) (sem_cons (sem_tup (sem_cons sem_str (sem_cons (sem_n (nin rfl)) sem_nil))) sem_nil)))
      (sem_drop (sem_lm met_popAt (nin rfl) (sem_cons (sem_n (nin rfl)) sem_nil)))) sem_next))
      (sem_retT2 (i := 2) (j := 3) (by decide))))))) rfl h
theorem ok_moves (T : Tx K mg) (G_outs : DefG P w K mg base (L2.CX P w) "outs" 2 ["first", "staying"] (spF K cs 2 F_outs)) : DefG P w K mg base (L2.CX P w) "moves" 3 ["first", "second"] (spF K cs 2 F_moves) := by
  obtain ⟨fd, F⟩ := T.d_moves
  refine DefG.mkX (k := 2) F T.g_moves sc_moves (fun _ _ _ _ _ _ us hl => match us, hl with | [_, _], _ => rfl) (fun vs H Q E h => spF_len h) (fun cdv A outer s H vs Q E gu tk po hr h => ?_)
  exact reads_ok (n := 2) (m := 8) (cv := [6, 7, 9])
    (pss_cons (ps_asg (pe_calF G_outs (guards_deeper gu) tk (hr.mono (by decide)) rfl (pa_cons (pv 0) (pa_cons (pe_dc (own := [("row_id", 6), ("_", 9)]) rfl sc_moves.nd (pi_seq (pi_list (pv 1)) (pi_tup (pv 1)) (pi_str (pv 1))) (blkOk_by (own := [("row_id", 6), ("_", 9)]) (N := ["first", "second", "told", "line", "cells_of", "place", "row_id", "cells", "here", "_"]) (sc := defScope s_moves) (by decide +kernel)) (fun _ _ _ _ _ => (pg_tupK (n := 2) (K := K) rfl rfl (pgs_cons (pg_name (i := 6) sc_moves.nd rfl (Or.inl rfl)) (pgs_cons (pg_name (i := 9) sc_moves.nd rfl (Or.inl rfl)) pgs_nil)))) (fun _ _ _ _ _ => pts_nil) (fun _ _ _ _ _ => (pv 6)) (fun _ _ _ _ _ => pe_bl)) pa_nil))) (pg_tup (by rfl) (pgs_cons (pg_name (i := 2) sc_moves.nd rfl (Or.inl rfl)) (pgs_cons (pg_name (i := 3) sc_moves.nd rfl (Or.inl rfl)) pgs_nil))))
      (pss_cons (ps_setDc (i := 4) (own := [("row_id", 6), ("cells", 7)]) rfl sc_moves.nd rfl rfl (swD_true rfl rfl rfl (by decide +kernel)) (pi_seq (pi_list (pv 0)) (pi_tup (pv 0)) (pi_str (pv 0))) (blkOk_by (own := [("row_id", 6), ("cells", 7)]) (N := ["first", "second", "told", "line", "cells_of", "place", "row_id", "cells", "here", "_"]) (sc := defScope s_moves) (by decide +kernel)) (fun _ _ _ _ _ => (pg_tupK (n := 2) (K := K) rfl rfl (pgs_cons (pg_name (i := 6) sc_moves.nd rfl (Or.inl rfl)) (pgs_cons (pg_name (i := 7) sc_moves.nd rfl (Or.inl rfl)) pgs_nil)))) (fun _ _ _ _ _ => pts_nil) (fun _ _ _ _ _ => (pv 6)) (fun _ _ _ _ _ => (pv 7)))
      (pss_cons (ps_for po rfl (pi_enumB (by rfl) T.b_enumerate (pa_cons (pv 1) pa_nil)) (pg_tup (by rfl) (pgs_cons (pg_name (i := 5) sc_moves.nd rfl (Or.inl rfl)) (pgs_cons (pg_tup (by rfl) (pgs_cons (pg_name (i := 6) sc_moves.nd rfl (Or.inl rfl)) (pgs_cons (pg_name (i := 7) sc_moves.nd rfl (Or.inl rfl)) pgs_nil))) pgs_nil))) (pss_cons (ps_if (pt_either (pt_cmpR op_ninG (pv 6) (pv 4) (by rfl)) (pt_cmp (pc_dnotin (hu1 hr) (pv 6) (pv 4)))) (pss_cons (ps_expr (pe_bm PySem.F.plainAttrs_list PySem.F.slot_list_append PySem.F.type_list_append mt_append (pv 2) (pa_cons (pe_tup (pa_cons pe_str (pa_cons (pv 5) (pa_cons (pv 6) (pa_cons (pv 7) pa_nil))))) pa_nil)))
      (pss_cons (ps_expr (pe_bm PySem.F.plainAttrs_list PySem.F.slot_list_insert PySem.F.type_list_insert mt_insert (pv 3) (pa_cons (pv 5) (pa_cons (pv 6) pa_nil))))
      (pss_one ps_continue))) pss_nil)
      (pss_cons (ps_set (i := 8) sc_moves.nd rfl (Or.inl rfl) (pe_bm PySem.F.plainAttrs_list PySem.F.slot_list_index PySem.F.type_list_index mt_index (pv 3) (pa_cons (pv 6) pa_nil)))
      (pss_cons (ps_if (pt_cmpR (op_neG hr.units) (pv 8) (pv 5) (nomark _)) (pss_cons (ps_expr (pe_bm PySem.F.plainAttrs_list PySem.F.slot_list_append PySem.F.type_list_append mt_append (pv 2) (pa_cons (pe_tup (pa_cons pe_str (pa_cons (pv 8) (pa_cons (pv 5) pa_nil)))) pa_nil)))
      (pss_one (ps_expr (pe_bm PySem.F.plainAttrs_list PySem.F.slot_list_insert PySem.F.type_list_insert mt_insert (pv 3) (pa_cons (pv 5) (pa_cons (pe_bm PySem.F.plainAttrs_list PySem.F.slot_list_pop PySem.F.type_list_pop mt_popAt (pv 3) (pa_cons (pv 8) pa_nil)) pa_nil)))))) pss_nil)
      (pss_one (ps_if (pt_cmpR (op_neG hr.units) (pe_either (pe_ix ix_seq (pv 4) (pv 6) (fun _ _ => rfl)) (pe_dget (hu1 hr) (pv 4) (pv 6) (fun _ _ => rfl))) (pv 7) (nomark _)) (pss_one (ps_expr (pe_bm PySem.F.plainAttrs_list PySem.F.slot_list_append PySem.F.type_list_append mt_append (pv 2) (pa_cons (pe_tup (pa_cons pe_str (pa_cons (pv 5) (pa_cons (pv 7) pa_nil)))) pa_nil)))) pss_nil))))))
      (pss_one (ps_ret (pv 2))))))
    (by exact (fun B H f0 vs => (sem_seq (sem_asgT2 (sem_call (sem_cons (sem_n (nin rfl)) (sem_cons (sem_dc (vs := [6, 9]) (sem_seqI (sem_n (nin rfl))) (sm_gtup (sm_gcons (semg_name XD.tt) (sm_gcons (semg_name XD.tt) sm_gnil))) sem_yes sem_nv sem_bl (by exact sub_of rfl) (sub_of rfl) XD.tt) sem_nil))) XD.tt XD.tt)
      (sem_seq (sem_asg (sem_dc (vs := [6, 7]) (sem_seqI (sem_n (nin rfl))) (sm_gtup (sm_gcons (semg_name XD.tt) (sm_gcons (semg_name XD.tt) sm_gnil))) sem_yes sem_nv sem_nv (by exact sub_of rfl) (sub_of rfl) XD.tt) (semg_name XD.tt))
      (sem_seq (sem_for (sem_enumB (sem_cons (sem_n (nin rfl)) sem_nil)) (sm_gtup (sm_gcons (semg_name XD.tt) (sm_gcons (sm_gtup (sm_gcons (semg_name XD.tt) (sm_gcons (semg_name XD.tt) sm_gnil))) sm_gnil))) (sem_seq (sem_if (sem_tv (sem_nin sem_nv (sem_n (nin rfl)))) (sem_seq (sem_drop (sem_lm met_append (nin rfl) (sem_cons (sem_tup (sem_cons sem_str (sem_cons (sem_n (nin rfl)) (sem_cons sem_nv (sem_cons sem_nv sem_nil))))) sem_nil)))
      (sem_seq (sem_drop (sem_lm met_insert (nin rfl) (sem_cons (sem_n (nin rfl)) (sem_cons sem_nv sem_nil))))
      sem_cont)) sem_next)
      (sem_seq (sem_asg (sem_mv met_index (sem_n (nin rfl)) (sem_cons sem_nv sem_nil)) (semg_name XD.tt))
      (sem_seq (sem_if (sem_tv (sem_op ops_ne (sem_n (nin rfl)) (sem_n (nin rfl)))) (sem_seq (sem_drop (sem_lm met_append (nin rfl) (sem_cons (sem_tup (sem_cons sem_str (sem_cons (sem_n (nin rfl)) (sem_cons (sem_n (nin rfl)) sem_nil)))) sem_nil)))
      (sem_drop (sem_lm met_insert (nin rfl) (sem_cons (sem_n (nin rfl)) (sem_cons (sem_lm met_popAt (nin rfl) (sem_cons (sem_n (nin rfl)) sem_nil)) sem_nil))))) sem_next)
      (sem_if (sem_tv (sem_op ops_ne (sem_sub (sem_n (nin rfl)) sem_nv) sem_nv)) (sem_drop (sem_lm met_append (nin rfl) (sem_cons (sem_tup (sem_cons sem_str (sem_cons (sem_n (nin rfl)) (sem_cons sem_nv sem_nil)))) sem_nil))) sem_next)))))
      (sem_ret (sem_n (nin rfl)))))))) rfl h
theorem ok_with_pair (T : Tx K mg) : DefG P w K mg base (L2.CX P w) "with_pair" 2 ["line", "place", "pair"] (spF K cs 3 F_with_pair) := by
  obtain ⟨fd, F⟩ := T.d_with_pair
  refine DefG.mkX (k := 1) F T.g_with_pair sc_with_pair (fun _ _ _ _ _ _ us hl => match us, hl with | [_, _, _], _ => rfl) (fun vs H Q E h => spF_len h) (fun cdv A outer s H vs Q E gu tk po hr h => ?_)
  exact reads_ok (n := 3) (m := 2) (cv := [3, 4])
    (pss_cons (ps_if (PW.pt (pw_or (pt_not (pt_chain op_leG op_leG pe_int (pv 1) (pe_callB call_lenF (by rfl) T.b_len bt_len (pa_cons (pv 0) pa_nil)))) (pw_or1 (pt_either (pt_cmpR op_inG (pe_either (pe_ix ix_seq (pv 2) pe_int (fun _ _ => rfl)) (pe_dget (hu1 hr) (pv 2) pe_int (fun _ _ => rfl))) (pe_lc (own := [("row_id", 3), ("_", 4)]) rfl sc_with_pair.nd (pi_seq (pi_list (pv 0)) (pi_tup (pv 0)) (pi_str (pv 0))) (blkOk_by (own := [("row_id", 3), ("_", 4)]) (N := ["line", "place", "pair", "row_id", "_"]) (sc := defScope s_with_pair) (by decide +kernel)) (fun _ _ _ _ _ => (pg_tupK (n := 2) (K := K) rfl rfl (pgs_cons (pg_name (i := 3) sc_with_pair.nd rfl (Or.inl rfl)) (pgs_cons (pg_name (i := 4) sc_with_pair.nd rfl (Or.inl rfl)) pgs_nil)))) (fun _ _ _ _ _ => pts_nil) (fun _ _ _ _ _ => (pv 3))) (by rfl)) (pt_cmp (pc_din (hu1 hr) (pe_either (pe_ix ix_seq (pv 2) pe_int (fun _ _ => rfl)) (pe_dget (hu1 hr) (pv 2) pe_int (fun _ _ => rfl))) (pe_lc (own := [("row_id", 3), ("_", 4)]) rfl sc_with_pair.nd (pi_seq (pi_list (pv 0)) (pi_tup (pv 0)) (pi_str (pv 0))) (blkOk_by (own := [("row_id", 3), ("_", 4)]) (N := ["line", "place", "pair", "row_id", "_"]) (sc := defScope s_with_pair) (by decide +kernel)) (fun _ _ _ _ _ => (pg_tupK (n := 2) (K := K) rfl rfl (pgs_cons (pg_name (i := 3) sc_with_pair.nd rfl (Or.inl rfl)) (pgs_cons (pg_name (i := 4) sc_with_pair.nd rfl (Or.inl rfl)) pgs_nil)))) (fun _ _ _ _ _ => pts_nil) (fun _ _ _ _ _ => (pv 3))))))))) (pss_one (ps_raise rfl tk (pmk_own0 PySem.F.excBase_ValueError (He.exc_ok T.x_BadFit).1 T.g_BadFit (He.exc_ok T.x_BadFit).2.1 (raises_own (He.exc_ok T.x_BadFit).2.2.1 (He.exc_ok T.x_BadFit).2.2.2) rfl))) pss_nil)
      (pss_one (ps_ret (pe_op op_addF (pe_op op_addF (pe_slice sl_F (pv 0) po_none (po_some (pv 1))) (pe_lst (pa_cons (pv 2) pa_nil))) (pe_slice sl_F (pv 0) (po_some (pv 1)) po_none)))))
    (by exact (fun B H f0 vs => (sem_seq (sem_if (sem_tor (sem_tnot (sem_tv (sem_chain ops_le ops_le sem_int (sem_n (nin rfl)) (sem_b calls_len (sem_cons (sem_n (nin rfl)) sem_nil))))) (sem_tv (sem_in (sem_sub (sem_n (nin rfl)) sem_int) (sem_lcN (vs := [3, 4]) (sm_gtup (sm_gcons (semg_name XD.tt) (sm_gcons (semg_name XD.tt) sm_gnil))) sem_yes sem_nv (by exact sub_of rfl) (sub_of rfl) XD.tt (nin rfl))))) sem_rz0 sem_next)
      (sem_ret (sem_op ops_add (sem_op ops_add (sem_slice (sem_n (nin rfl)) sem_nop (sem_part (sem_n (nin rfl)))) (sem_lst (sem_cons (sem_n (nin rfl)) sem_nil))) (sem_slice (sem_n (nin rfl)) (sem_part (sem_n (nin rfl))) sem_nop)))))) rfl h
theorem ok_behind_move (T : Tx K mg) (G_with_pair : DefG P w K mg base (L2.CX P w) "with_pair" 2 ["line", "place", "pair"] (spF K cs 3 F_with_pair)) : DefG P w K mg base (L2.CX P w) "behind_move" 3 ["line", "move"] (spF K cs 2 F_behind_move) := by
  obtain ⟨fd, F⟩ := T.d_behind_move
  refine DefG.mkX (k := 2) F T.g_behind_move sc_behind_move (fun _ _ _ _ _ _ us hl => match us, hl with | [_, _], _ => rfl) (fun vs H Q E h => spF_len h) (fun cdv A outer s H vs Q E gu tk po hr h => ?_)
  exact reads_ok (n := 2) (m := 4) (cv := [])
    (pss_cons (ps_par (i := 2) (j := 3) rfl sc_behind_move.nd rfl rfl (by decide) rfl rfl (pa_cons (pe_either (pe_ix ix_seq (pv 1) pe_int (fun _ _ => rfl)) (pe_dget (hu1 hr) (pv 1) pe_int (fun _ _ => rfl))) (pa_cons (pe_either (pe_ix ix_seq (pv 1) pe_int (fun _ _ => rfl)) (pe_dget (hu1 hr) (pv 1) pe_int (fun _ _ => rfl))) pa_nil)) (by rfl))
      (pss_cons (ps_if (pt_cmpR (op_eqG hr.units) (pv 2) pe_str (nomark _)) (pss_one (ps_ret (pe_calF G_with_pair (guards_deeper gu) tk (hr.mono (by decide)) rfl (pa_cons (pv 0) (pa_cons (pv 3) (pa_cons (pe_tup (pa_cons (pe_either (pe_ix ix_seq (pv 1) pe_int (fun _ _ => rfl)) (pe_dget (hu1 hr) (pv 1) pe_int (fun _ _ => rfl))) (pa_cons (pe_either (pe_ix ix_seq (pv 1) pe_int (fun _ _ => rfl)) (pe_dget (hu1 hr) (pv 1) pe_int (fun _ _ => rfl))) pa_nil))) pa_nil)))))) pss_nil)
      (pss_cons (ps_if (pt_not (pt_chain op_leG (op_ltG hr.units0) pe_int (pv 3) (pe_callB call_lenF (by rfl) T.b_len bt_len (pa_cons (pv 0) pa_nil)))) (pss_one (ps_raise rfl tk (pmk_own0 PySem.F.excBase_ValueError (He.exc_ok T.x_BadFit).1 T.g_BadFit (He.exc_ok T.x_BadFit).2.1 (raises_own (He.exc_ok T.x_BadFit).2.2.1 (He.exc_ok T.x_BadFit).2.2.2) rfl))) pss_nil)
      (pss_cons (ps_set (i := 4) sc_behind_move.nd rfl (Or.inl rfl) (pe_either (pe_ix ix_seq (pe_either (pe_ix ix_seq (pv 0) (pv 3) (fun _ _ => rfl)) (pe_dget (hu1 hr) (pv 0) (pv 3) (fun _ _ => rfl))) pe_int (fun _ _ => rfl)) (pe_dget (hu1 hr) (pe_either (pe_ix ix_seq (pv 0) (pv 3) (fun _ _ => rfl)) (pe_dget (hu1 hr) (pv 0) (pv 3) (fun _ _ => rfl))) pe_int (fun _ _ => rfl))))
      (pss_cons (ps_set (i := 5) sc_behind_move.nd rfl (Or.inl rfl) (pe_op op_addF (pe_slice sl_F (pv 0) po_none (po_some (pv 3))) (pe_slice sl_F (pv 0) (po_some (pe_op op_addF (pv 3) pe_int)) po_none)))
      (pss_cons (ps_if (pt_cmpR (op_eqG hr.units) (pv 2) pe_str (nomark _)) (pss_one (ps_ret (pv 5))) pss_nil)
      (pss_cons (ps_if (pt_cmpR (op_eqG hr.units) (pv 2) pe_str (nomark _)) (pss_one (ps_ret (pe_calF G_with_pair (guards_deeper gu) tk (hr.mono (by decide)) rfl (pa_cons (pv 5) (pa_cons (pv 3) (pa_cons (pe_tup (pa_cons (pv 4) (pa_cons (pe_either (pe_ix ix_seq (pv 1) pe_int (fun _ _ => rfl)) (pe_dget (hu1 hr) (pv 1) pe_int (fun _ _ => rfl))) pa_nil))) pa_nil)))))) pss_nil)
      (pss_one (ps_ret (pe_calF G_with_pair (guards_deeper gu) tk (hr.mono (by decide)) rfl (pa_cons (pv 5) (pa_cons (pe_either (pe_ix ix_seq (pv 1) pe_int (fun _ _ => rfl)) (pe_dget (hu1 hr) (pv 1) pe_int (fun _ _ => rfl))) (pa_cons (pe_either (pe_ix ix_seq (pv 0) (pv 3) (fun _ _ => rfl)) (pe_dget (hu1 hr) (pv 0) (pv 3) (fun _ _ => rfl))) pa_nil)))))))))))))
    (by exact (fun B H f0 vs => (sem_seq (sem_par XD.tt XD.tt (sem_cons (sem_sub (sem_n (nin rfl)) sem_int) (sem_cons (sem_sub (sem_n (nin rfl)) sem_int) sem_nil)))
      (sem_seq (sem_if (sem_tv (sem_op ops_eq (sem_n (nin rfl)) sem_str)) (sem_ret (sem_call (sem_cons (sem_n (nin rfl)) (sem_cons (sem_n (nin rfl)) (sem_cons (sem_tup (sem_cons (sem_sub (sem_n (nin rfl)) sem_int) (sem_cons (sem_sub (sem_n (nin rfl)) sem_int) sem_nil))) sem_nil))))) sem_next)
      (sem_seq (sem_if (sem_tnot (sem_tv (sem_chain ops_le ops_lt sem_int (sem_n (nin rfl)) (sem_b calls_len (sem_cons (sem_n (nin rfl)) sem_nil))))) sem_rz0 sem_next)
      (sem_seq (sem_asg (sem_sub (sem_sub (sem_n (nin rfl)) (sem_n (nin rfl))) sem_int) (semg_name XD.tt))
      (sem_seq (sem_asg (sem_op ops_add (sem_slice (sem_n (nin rfl)) sem_nop (sem_part (sem_n (nin rfl)))) (sem_slice (sem_n (nin rfl)) (sem_part (sem_op ops_add (sem_n (nin rfl)) sem_int)) sem_nop)) (semg_name XD.tt))
      (sem_seq (sem_if (sem_tv (sem_op ops_eq (sem_n (nin rfl)) sem_str)) (sem_ret (sem_n (nin rfl))) sem_next)
      (sem_seq (sem_if (sem_tv (sem_op ops_eq (sem_n (nin rfl)) sem_str)) (sem_ret (sem_call (sem_cons (sem_n (nin rfl)) (sem_cons (sem_n (nin rfl)) (sem_cons (sem_tup (sem_cons (sem_n (nin rfl)) (sem_cons (sem_sub (sem_n (nin rfl)) sem_int) sem_nil))) sem_nil))))) sem_next)
      (sem_ret (sem_call (sem_cons (sem_n (nin rfl)) (sem_cons (sem_sub (sem_n (nin rfl)) sem_int) (sem_cons (sem_sub (sem_n (nin rfl)) (sem_n (nin rfl))) sem_nil)))))))))))))) rfl h
theorem ok_moved_by (T : Tx K mg) (G_moves : DefG P w K mg base (L2.CX P w) "moves" 3 ["first", "second"] (spF K cs 2 F_moves)) (G_behind_move : DefG P w K mg base (L2.CX P w) "behind_move" 3 ["line", "move"] (spF K cs 2 F_behind_move)) : DefG P w K mg base (L2.CX P w) "moved_by" 4 ["first", "moves"] (spF K cs 2 F_moved_by) := by
  obtain ⟨fd, F⟩ := T.d_moved_by
  refine DefG.mkX (k := 3) F T.g_moved_by sc_moved_by (fun _ _ _ _ _ _ us hl => match us, hl with | [_, _], _ => rfl) (fun vs H Q E h => spF_len h) (fun cdv A outer s H vs Q E gu tk po hr h => ?_)
  exact reads_ok (n := 2) (m := 2) (cv := [])
    (pss_cons (ps_set (i := 2) sc_moved_by.nd rfl (Or.inl rfl) (pe_callTy call_listF (by rfl) T.b_list bt_list (pa_cons (pv 0) pa_nil)))
      (pss_cons (ps_for po rfl (pi_seq (pi_list (pv 1)) (pi_tup (pv 1)) (pi_str (pv 1))) (pg_name (i := 3) sc_moved_by.nd rfl (Or.inl rfl)) (pss_one (ps_set (i := 2) sc_moved_by.nd rfl (Or.inl rfl) (pe_calF G_behind_move (guards_deeper gu) tk (hr.mono (by decide)) rfl (pa_cons (pv 2) (pa_cons (pv 3) pa_nil))))))
      (pss_one (ps_ret (pe_callTy call_tupF (by rfl) T.b_tuple bt_tuple (pa_cons (pv 2) pa_nil))))))
    (by exact (fun B H f0 vs => (sem_seq (sem_asg (sem_b calls_list (sem_cons (sem_n (nin rfl)) sem_nil)) (semg_name XD.tt))
      (sem_seq (sem_forN (fun _ => (semg_name (XD.at XD.tt (nin rfl)))) (fun _ => (sem_asg (sem_call (sem_cons (sem_n (nin rfl)) (sem_cons (sem_n (nin rfl)) sem_nil))) (semg_name (XD.at XD.tt (nin rfl))))) (nin rfl))
      (sem_ret (sem_b calls_tuple (sem_cons (sem_n (nin rfl)) sem_nil))))))) rfl h
theorem ok_law_refused (T : Tx K mg) (G_moved_by : DefG P w K mg base (L2.CX P w) "moved_by" 4 ["first", "moves"] (spF K cs 2 F_moved_by)) : DefG P w K mg base (L2.CX P w) "_law_refused" 5 ["row", "one"] (spF K cs 2 F_law_refused) := by
  obtain ⟨fd, F⟩ := T.d_law_refused
  refine DefG.mkX (k := 4) F T.g_law_refused sc_law_refused (fun _ _ _ _ _ _ us hl => match us, hl with | [_, _], _ => rfl) (fun vs H Q E h => spF_len h) (fun cdv A outer s H vs Q E gu tk po hr h => ?_)
  exact reads_ok (n := 2) (m := 1) (cv := [])
    (pss_cons (ps_try_as (i := 2) rfl rfl sc_law_refused.nd rfl rfl ⟨rfl, by decide, .inl T.g_TableError⟩ tk (fun W pn xe tk po => (pss_one (ps_expr (pe_calF G_moved_by (guards_deeper gu) tk (hr.mono (by decide)) rfl (pa_cons (pv 0) (pa_cons (pe_lst (pa_cons (pv 1) pa_nil)) pa_nil)))))) (fun a oe cls d pn hz hf => (pss_one (ps_ret (pe_callB (call_isX hz hf) (by rfl) T.b_isinstance bt_isinstance (pa_cons (pv 2) (pa_cons (pe_gref rfl T.g_BadFit) pa_nil)))))))
      (pss_one (ps_ret pe_bl)))
    (by exact (fun B H f0 vs => (sem_seq (sem_tryAs (tk := (fun x => if x = "TableError" then some true else if x = "BadFit" then some true else none)) XD.tt rfl (tk_x_TableError T) (fun _ => (sem_drop (sem_call (sem_cons (sem_n (nin rfl)) (sem_cons (sem_lst (sem_cons (sem_n (nin rfl)) sem_nil)) sem_nil))))) (fun a e d od => (sem_ret (sem_isX (tk := (fun x => if x = "TableError" then some false else if x = "BadFit" then some true else none)) (tk_i_BadFit T) od))))
      (sem_ret sem_bl)))) rfl h
theorem ok_law_same (T : Tx K mg) : DefG P w K mg base (L2.CX P w) "_law_same" 2 ["actual", "due"] (spF K cs 2 F_law_same) := by
  obtain ⟨fd, F⟩ := T.d_law_same
  refine DefG.mkX (k := 1) F T.g_law_same sc_law_same (fun _ _ _ _ _ _ us hl => match us, hl with | [_, _], _ => rfl) (fun vs H Q E h => spF_len h) (fun cdv A outer s H vs Q E gu tk po hr h => ?_)
  exact reads_ok (n := 2) (m := 0) (cv := [])
    (pss_one (ps_ret (pe_cmpR (op_eqG hr.units) (pe_callB (call_reprN (guards_deeper gu) (big_room hr)) (by rfl) T.b_repr bt_repr (pa_cons (pv 0) pa_nil)) (pe_callB (call_reprN (guards_deeper gu) (big_room hr)) (by rfl) T.b_repr bt_repr (pa_cons (pv 1) pa_nil)) (nomark _))))
    (by exact (fun B H f0 vs => (sem_ret (sem_op ops_eq (sem_b calls_repr (sem_cons (sem_n (nin rfl)) sem_nil)) (sem_b calls_repr (sem_cons (sem_n (nin rfl)) sem_nil)))))) rfl h
theorem ok_law_made (T : Tx K mg) : DefG P w K mg base (L2.CX P w) "_law_made" 2 ["first", "second"] (spF K cs 2 F_law_made) := by
  obtain ⟨fd, F⟩ := T.d_law_made
  refine DefG.mkX (k := 1) F T.g_law_made sc_law_made (fun _ _ _ _ _ _ us hl => match us, hl with | [_, _], _ => rfl) (fun vs H Q E h => spF_len h) (fun cdv A outer s H vs Q E gu tk po hr h => ?_)
  exact reads_ok (n := 2) (m := 9) (cv := [10])
    (pss_cons (ps_set (i := 2) sc_law_made.nd rfl (Or.inl rfl) (pe_callTy call_listF (by rfl) T.b_list bt_list (pa_cons (pv 0) pa_nil)))
      (pss_cons (ps_set (i := 3) sc_law_made.nd rfl (Or.inl rfl) (pe_lst pa_nil))
      (pss_cons (ps_setLc (i := 4) (own := [("pair", 10)]) rfl sc_law_made.nd rfl rfl (sw_true rfl rfl rfl (by decide +kernel)) (pi_seq (pi_list (pv 1)) (pi_tup (pv 1)) (pi_str (pv 1))) (blkOk_by (own := [("pair", 10)]) (N := ["first", "second", "row", "found", "behind", "place", "one", "cells", "ids", "at", "pair"]) (sc := defScope s_law_made) (by decide +kernel)) (fun _ _ _ _ _ => (pg_name (i := 10) sc_law_made.nd rfl (Or.inl rfl))) (fun _ _ _ _ _ => pts_nil) (fun _ _ _ _ _ => (pe_either (pe_ix (ixK (K := K) (r := rIx) rfl ix_seq) (pv 10) pe_int (fun _ _ => rfl)) (pe_dget (hu1 hr) (pv 10) pe_int (fun _ _ => rfl)))))
      (pss_cons (ps_for po rfl (pi_range3 (by rfl) T.b_range (pa_cons (pe_op op_subG (pe_callB call_lenF (by rfl) T.b_len bt_len (pa_cons (pv 0) pa_nil)) pe_int) (pa_cons (pe_un un_neg pe_int) (pa_cons (pe_un un_neg pe_int) pa_nil)))) (pg_name (i := 5) sc_law_made.nd rfl (Or.inl rfl)) (pss_one (ps_if (pt_either (pt_cmpR op_ninG (pe_either (pe_ix ix_seq (pe_either (pe_ix ix_seq (pv 2) (pv 5) (fun _ _ => rfl)) (pe_dget (hu1 hr) (pv 2) (pv 5) (fun _ _ => rfl))) pe_int (fun _ _ => rfl)) (pe_dget (hu1 hr) (pe_either (pe_ix ix_seq (pv 2) (pv 5) (fun _ _ => rfl)) (pe_dget (hu1 hr) (pv 2) (pv 5) (fun _ _ => rfl))) pe_int (fun _ _ => rfl))) (pv 4) (by rfl)) (pt_cmp (pc_dnotin (hu1 hr) (pe_either (pe_ix ix_seq (pe_either (pe_ix ix_seq (pv 2) (pv 5) (fun _ _ => rfl)) (pe_dget (hu1 hr) (pv 2) (pv 5) (fun _ _ => rfl))) pe_int (fun _ _ => rfl)) (pe_dget (hu1 hr) (pe_either (pe_ix ix_seq (pv 2) (pv 5) (fun _ _ => rfl)) (pe_dget (hu1 hr) (pv 2) (pv 5) (fun _ _ => rfl))) pe_int (fun _ _ => rfl))) (pv 4)))) (pss_cons (ps_expr (pe_bm PySem.F.plainAttrs_list PySem.F.slot_list_append PySem.F.type_list_append mt_append (pv 3) (pa_cons (pe_tup (pa_cons pe_str (pa_cons (pv 5) pa_nil))) pa_nil)))
      (pss_one (ps_set (i := 2) sc_law_made.nd rfl (Or.inl rfl) (pe_op op_addF (pe_slice sl_F (pv 2) po_none (po_some (pv 5))) (pe_slice sl_F (pv 2) (po_some (pe_op op_addF (pv 5) pe_int)) po_none))))) pss_nil)))
      (pss_cons (ps_for po rfl (pi_range1 (by rfl) T.b_range (pa_cons (pe_callB call_lenF (by rfl) T.b_len bt_len (pa_cons (pv 1) pa_nil)) pa_nil)) (pg_name (i := 5) sc_law_made.nd rfl (Or.inl rfl)) (pss_cons (ps_asg (pe_either (pe_ix ix_seq (pv 1) (pv 5) (fun _ _ => rfl)) (pe_dget (hu1 hr) (pv 1) (pv 5) (fun _ _ => rfl))) (pg_tup (by rfl) (pgs_cons (pg_name (i := 6) sc_law_made.nd rfl (Or.inl rfl)) (pgs_cons (pg_name (i := 7) sc_law_made.nd rfl (Or.inl rfl)) pgs_nil))))
      (pss_cons (ps_setLc (i := 8) (own := [("pair", 10)]) rfl sc_law_made.nd rfl rfl (sw_true rfl rfl rfl (by decide +kernel)) (pi_seq (pi_list (pv 2)) (pi_tup (pv 2)) (pi_str (pv 2))) (blkOk_by (own := [("pair", 10)]) (N := ["first", "second", "row", "found", "behind", "place", "one", "cells", "ids", "at", "pair"]) (sc := defScope s_law_made) (by decide +kernel)) (fun _ _ _ _ _ => (pg_name (i := 10) sc_law_made.nd rfl (Or.inl rfl))) (fun _ _ _ _ _ => pts_nil) (fun _ _ _ _ _ => (pe_either (pe_ix (ixK (K := K) (r := rIx) rfl ix_seq) (pv 10) pe_int (fun _ _ => rfl)) (pe_dget (hu1 hr) (pv 10) pe_int (fun _ _ => rfl)))))
      (pss_one (ps_if (pt_either (pt_cmpR op_ninG (pv 6) (pv 8) (by rfl)) (pt_cmp (pc_dnotin (hu1 hr) (pv 6) (pv 8)))) (pss_cons (ps_expr (pe_bm PySem.F.plainAttrs_list PySem.F.slot_list_append PySem.F.type_list_append mt_append (pv 3) (pa_cons (pe_tup (pa_cons pe_str (pa_cons (pv 5) (pa_cons (pv 6) (pa_cons (pv 7) pa_nil))))) pa_nil)))
      (pss_one (ps_set (i := 2) sc_law_made.nd rfl (Or.inl rfl) (pe_op op_addF (pe_op op_addF (pe_slice sl_F (pv 2) po_none (po_some (pv 5))) (pe_lst (pa_cons (pe_tup (pa_cons (pv 6) (pa_cons (pv 7) pa_nil))) pa_nil))) (pe_slice sl_F (pv 2) (po_some (pv 5)) po_none))))) (pss_cons (ps_set (i := 9) sc_law_made.nd rfl (Or.inl rfl) (pe_bm PySem.F.plainAttrs_list PySem.F.slot_list_index PySem.F.type_list_index mt_index (pv 8) (pa_cons (pv 6) pa_nil)))
      (pss_cons (ps_if (pt_cmpR (op_neG hr.units) (pv 9) (pv 5) (nomark _)) (pss_cons (ps_expr (pe_bm PySem.F.plainAttrs_list PySem.F.slot_list_append PySem.F.type_list_append mt_append (pv 3) (pa_cons (pe_tup (pa_cons pe_str (pa_cons (pv 9) (pa_cons (pv 5) pa_nil)))) pa_nil)))
      (pss_cons (ps_set (i := 10) sc_law_made.nd rfl (Or.inl rfl) (pe_either (pe_ix ix_seq (pv 2) (pv 9) (fun _ _ => rfl)) (pe_dget (hu1 hr) (pv 2) (pv 9) (fun _ _ => rfl))))
      (pss_cons (ps_set (i := 2) sc_law_made.nd rfl (Or.inl rfl) (pe_op op_addF (pe_slice sl_F (pv 2) po_none (po_some (pv 9))) (pe_slice sl_F (pv 2) (po_some (pe_op op_addF (pv 9) pe_int)) po_none)))
      (pss_one (ps_set (i := 2) sc_law_made.nd rfl (Or.inl rfl) (pe_op op_addF (pe_op op_addF (pe_slice sl_F (pv 2) po_none (po_some (pv 5))) (pe_lst (pa_cons (pv 10) pa_nil))) (pe_slice sl_F (pv 2) (po_some (pv 5)) po_none))))))) pss_nil)
      (pss_one (ps_if (pt_cmpR (op_neG hr.units) (pe_either (pe_ix ix_seq (pe_either (pe_ix ix_seq (pv 2) (pv 5) (fun _ _ => rfl)) (pe_dget (hu1 hr) (pv 2) (pv 5) (fun _ _ => rfl))) pe_int (fun _ _ => rfl)) (pe_dget (hu1 hr) (pe_either (pe_ix ix_seq (pv 2) (pv 5) (fun _ _ => rfl)) (pe_dget (hu1 hr) (pv 2) (pv 5) (fun _ _ => rfl))) pe_int (fun _ _ => rfl))) (pv 7) (nomark _)) (pss_cons (ps_expr (pe_bm PySem.F.plainAttrs_list PySem.F.slot_list_append PySem.F.type_list_append mt_append (pv 3) (pa_cons (pe_tup (pa_cons pe_str (pa_cons (pv 5) (pa_cons (pv 7) pa_nil)))) pa_nil)))
      (pss_one (ps_set (i := 2) sc_law_made.nd rfl (Or.inl rfl) (pe_op op_addF (pe_op op_addF (pe_slice sl_F (pv 2) po_none (po_some (pv 5))) (pe_lst (pa_cons (pe_tup (pa_cons (pv 6) (pa_cons (pv 7) pa_nil))) pa_nil))) (pe_slice sl_F (pv 2) (po_some (pe_op op_addF (pv 5) pe_int)) po_none))))) pss_nil)))))))))
      (pss_one (ps_ret (pv 3))))))))
    (by exact (fun B H f0 vs => (sem_seq (sem_asg (sem_b calls_list (sem_cons (sem_n (nin rfl)) sem_nil)) (semg_name XD.tt))
      (sem_seq (sem_asg (sem_lst sem_nil) (semg_name XD.tt))
      (sem_seq (sem_asg (sem_lcN (vs := [10]) (semg_name XD.tt) sem_yes (sem_sub sem_nv sem_int) (by exact sub_of rfl) (sub_of rfl) XD.tt (nin rfl)) (semg_name XD.tt))
      (sem_seq (sem_for (sem_rng3 (sem_cons (sem_op ops_sub (sem_b calls_len (sem_cons (sem_n (nin rfl)) sem_nil)) sem_int) (sem_cons (sem_neg sem_int) (sem_cons (sem_neg sem_int) sem_nil)))) (semg_name XD.tt) (sem_if (sem_tv (sem_nin (sem_sub (sem_sub (sem_n (nin rfl)) (sem_n (nin rfl))) sem_int) (sem_n (nin rfl)))) (sem_seq (sem_drop (sem_lm met_append (nin rfl) (sem_cons (sem_tup (sem_cons sem_str (sem_cons (sem_n (nin rfl)) sem_nil))) sem_nil)))
      (sem_asg (sem_op ops_add (sem_slice (sem_n (nin rfl)) sem_nop (sem_part (sem_n (nin rfl)))) (sem_slice (sem_n (nin rfl)) (sem_part (sem_op ops_add (sem_n (nin rfl)) sem_int)) sem_nop)) (semg_name XD.tt))) sem_next))
      (sem_seq (sem_for (sm_rng1 (sem_cons (sem_b calls_len (sem_cons (sem_n (nin rfl)) sem_nil)) sem_nil)) (semg_name XD.tt) (sem_seq (sem_asg (sem_sub (sem_n (nin rfl)) (sem_n (nin rfl))) (sm_gtup (sm_gcons (semg_name XD.tt) (sm_gcons (semg_name XD.tt) sm_gnil))))
      (sem_seq (sem_asg (sem_lcN (vs := [10]) (semg_name XD.tt) sem_yes (sem_sub sem_nv sem_int) (by exact sub_of rfl) (sub_of rfl) XD.tt (nin rfl)) (semg_name XD.tt))
      (sem_if (sem_tv (sem_nin (sem_n (nin rfl)) (sem_n (nin rfl)))) (sem_seq (sem_drop (sem_lm met_append (nin rfl) (sem_cons (sem_tup (sem_cons sem_str (sem_cons (sem_n (nin rfl)) (sem_cons (sem_n (nin rfl)) (sem_cons (sem_n (nin rfl)) sem_nil))))) sem_nil)))
      (sem_asg (sem_op ops_add (sem_op ops_add (sem_slice (sem_n (nin rfl)) sem_nop (sem_part (sem_n (nin rfl)))) (sem_lst (sem_cons (sem_tup (sem_cons (sem_n (nin rfl)) (sem_cons (sem_n (nin rfl)) sem_nil))) sem_nil))) (sem_slice (sem_n (nin rfl)) (sem_part (sem_n (nin rfl))) sem_nop)) (semg_name XD.tt))) (sem_seq (sem_asg (sem_mv met_index (sem_n (nin rfl)) (sem_cons (sem_n (nin rfl)) sem_nil)) (semg_name XD.tt))
      (sem_seq (sem_if (sem_tv (sem_op ops_ne (sem_n (nin rfl)) (sem_n (nin rfl)))) (sem_seq (sem_drop (sem_lm met_append (nin rfl) (sem_cons (sem_tup (sem_cons sem_str (sem_cons (sem_n (nin rfl)) (sem_cons (sem_n (nin rfl)) sem_nil)))) sem_nil)))
      (sem_seq (sem_asg (sem_sub (sem_n (nin rfl)) (sem_n (nin rfl))) (semg_name XD.tt))
      (sem_seq (sem_asg (sem_op ops_add (sem_slice (sem_n (nin rfl)) sem_nop (sem_part (sem_n (nin rfl)))) (sem_slice (sem_n (nin rfl)) (sem_part (sem_op ops_add (sem_n (nin rfl)) sem_int)) sem_nop)) (semg_name XD.tt))
      (sem_asg (sem_op ops_add (sem_op ops_add (sem_slice (sem_n (nin rfl)) sem_nop (sem_part (sem_n (nin rfl)))) (sem_lst (sem_cons sem_nv sem_nil))) (sem_slice (sem_n (nin rfl)) (sem_part (sem_n (nin rfl))) sem_nop)) (semg_name XD.tt))))) sem_next)
      (sem_if (sem_tv (sem_op ops_ne (sem_sub (sem_sub (sem_n (nin rfl)) (sem_n (nin rfl))) sem_int) (sem_n (nin rfl)))) (sem_seq (sem_drop (sem_lm met_append (nin rfl) (sem_cons (sem_tup (sem_cons sem_str (sem_cons (sem_n (nin rfl)) (sem_cons (sem_n (nin rfl)) sem_nil)))) sem_nil)))
      (sem_asg (sem_op ops_add (sem_op ops_add (sem_slice (sem_n (nin rfl)) sem_nop (sem_part (sem_n (nin rfl)))) (sem_lst (sem_cons (sem_tup (sem_cons (sem_n (nin rfl)) (sem_cons (sem_n (nin rfl)) sem_nil))) sem_nil))) (sem_slice (sem_n (nin rfl)) (sem_part (sem_op ops_add (sem_n (nin rfl)) sem_int)) sem_nop)) (semg_name XD.tt))) sem_next)))))))
      (sem_ret (sem_n (nin rfl)))))))))) rfl h
theorem ok_law {fd : FuncData} (T : Tx K mg) (G_law_digits : DefG P w K mg base (L2.CX P w) "_law_digits" 3 ["script", "first", "last"] (spF K cs 3 F_law_digits)) (G_law_pairs : DefG P w K mg base (L2.CX P w) "_law_pairs" 4 ["box", "most"] (spF K cs 2 F_law_pairs)) (G_law_near : DefG P w K mg base (L2.CX P w) "_law_near" 3 ["box", "row"] (spF K cs 2 F_law_near)) (G_moves : DefG P w K mg base (L2.CX P w) "moves" 3 ["first", "second"] (spF K cs 2 F_moves)) (G_law_draw : DefG P w K mg base (L2.CX P w) "_law_draw" 2 ["box", "many"] (spF K cs 2 F_law_draw)) (G_law_refused : DefG P w K mg base (L2.CX P w) "_law_refused" 5 ["row", "one"] (spF K cs 2 F_law_refused)) (G_law_same : DefG P w K mg base (L2.CX P w) "_law_same" 2 ["actual", "due"] (spF K cs 2 F_law_same)) (G_law_made : DefG P w K mg base (L2.CX P w) "_law_made" 2 ["first", "second"] (spF K cs 2 F_law_made)) (G_moved_by : DefG P w K mg base (L2.CX P w) "moved_by" 4 ["first", "moves"] (spF K cs 2 F_moved_by)) (F : FunD K "law" "law" (defArgs s_law) (defBody s_law) (defScope s_law) [] [] (He.ga K "law") fd) : FnG P w K mg base CX0 6 (He.ga K "law") fd ["script"] (fun vs H Q _ => spF K cs 1 F_law vs H Q fun _ _ _ => False) := by
  refine FnG.by_body (k := 5) F sc_law (fun vs H Q E h => spF_lenE h) (fun cdv A outer s H vs Q E gu hr h => ?_)
  have key : ∃ t, PSs (cxOf CX0 P w K mg base ["script", "box", "turn", "first", "second", "told", "many", "wrong"] "law" (defScope s_law) (He.ga K "law") cdv A outer s H E).nox (defBody s_law) t ∧ t { nx := fun _ H' => Q .non H', rt := Q } (L2.start ["script", "box", "turn", "first", "second", "told", "many", "wrong"] vs) H := by
    exact reads_law (n := 1) (m := 7) (cv := [])
      (pss_cons (ps_set (i := 1) sc_law.nd rfl (Or.inl rfl) (pe_lst (pa_cons (pe_calF G_law_digits (guards_deeper gu) takes0 (hr.mono (by decide)) rfl (pa_cons (pv 0) (pa_cons pe_int (pa_cons pe_int pa_nil)))) (pa_cons pe_int pa_nil))))
      (pss_cons (ps_for PassesOwn.never rfl (pi_range1 (by rfl) T.b_range (pa_cons pe_int pa_nil)) (pg_name (i := 2) sc_law.nd rfl (Or.inl rfl)) (pss_cons (ps_set (i := 3) sc_law.nd rfl (Or.inl rfl) (pe_calF G_law_pairs (guards_deeper gu) takes0 (hr.mono (by decide)) rfl (pa_cons (pv 1) (pa_cons pe_int pa_nil))))
      (pss_cons (ps_set (i := 4) sc_law.nd rfl (Or.inl rfl) (pe_calF G_law_near (guards_deeper gu) takes0 (hr.mono (by decide)) rfl (pa_cons (pv 1) (pa_cons (pv 3) pa_nil))))
      (pss_cons (ps_if (pt_cmpR (op_eqG hr.units) (pe_calF G_law_draw (guards_deeper gu) takes0 (hr.mono (by decide)) rfl (pa_cons (pv 1) (pa_cons pe_int pa_nil))) pe_int (nomark _)) (pss_one (ps_set (i := 4) sc_law.nd rfl (Or.inl rfl) (pe_calF G_law_pairs (guards_deeper gu) takes0 (hr.mono (by decide)) rfl (pa_cons (pv 1) (pa_cons pe_int pa_nil))))) pss_nil)
      (pss_cons (ps_set (i := 5) sc_law.nd rfl (Or.inl rfl) (pe_calF G_moves (guards_deeper gu) takes0 (hr.mono (by decide)) rfl (pa_cons (pv 3) (pa_cons (pv 4) pa_nil))))
      (pss_cons (ps_if (PW.pt (pw_or (pt_not (pt_val (pe_calF G_law_same (guards_deeper gu) takes0 (hr.mono (by decide)) rfl (pa_cons (pv 5) (pa_cons (pe_calF G_law_made (guards_deeper gu) takes0 (hr.mono (by decide)) rfl (pa_cons (pv 3) (pa_cons (pv 4) pa_nil))) pa_nil))))) (pw_or (pt_not (pt_val (pe_calF G_law_same (guards_deeper gu) takes0 (hr.mono (by decide)) rfl (pa_cons (pe_calF G_moved_by (guards_deeper gu) takes0 (hr.mono (by decide)) rfl (pa_cons (pv 3) (pa_cons (pv 5) pa_nil))) (pa_cons (pv 4) pa_nil))))) (pw_or1 (pt_cmpR (op_neG hr.units) (pe_calF G_moves (guards_deeper gu) takes0 (hr.mono (by decide)) rfl (pa_cons (pv 3) (pa_cons (pv 3) pa_nil))) (pe_lst pa_nil) (nomark _)))))) (pss_one (ps_ret pe_bl)) pss_nil)
      (pss_cons (ps_set (i := 6) sc_law.nd rfl (Or.inl rfl) (pe_callB call_lenF (by rfl) T.b_len bt_len (pa_cons (pv 3) pa_nil)))
      (pss_cons (ps_set (i := 7) sc_law.nd rfl (Or.inl rfl) (pe_lst (pa_cons (pe_tup (pa_cons pe_str (pa_cons (pv 6) pa_nil))) (pa_cons (pe_tup (pa_cons pe_str (pa_cons (pv 6) (pa_cons pe_int pa_nil)))) (pa_cons (pe_tup (pa_cons pe_str (pa_cons (pv 6) (pa_cons (pe_tup (pa_cons pe_int pa_nil)) pa_nil)))) (pa_cons (pe_tup (pa_cons pe_str (pa_cons (pe_op op_addF (pv 6) pe_int) (pa_cons pe_int (pa_cons (pe_tup (pa_cons pe_int pa_nil)) pa_nil))))) (pa_cons (pe_tup (pa_cons pe_str (pa_cons (pe_un un_neg pe_int) pa_nil))) (pa_cons (pe_tup (pa_cons pe_str (pa_cons pe_int (pa_cons (pv 6) pa_nil)))) pa_nil))))))))
      (pss_cons (ps_if (pt_cmpR op_gtG (pv 6) pe_int (nomark _)) (pss_one (ps_expr (pe_bm PySem.F.plainAttrs_list PySem.F.slot_list_append PySem.F.type_list_append mt_append (pv 7) (pa_cons (pe_tup (pa_cons pe_str (pa_cons pe_int (pa_cons (pe_either (pe_ix ix_seq (pe_either (pe_ix ix_seq (pv 3) pe_int (fun _ _ => rfl)) (pe_dget (hu1 hr) (pv 3) pe_int (fun _ _ => rfl))) pe_int (fun _ _ => rfl)) (pe_dget (hu1 hr) (pe_either (pe_ix ix_seq (pv 3) pe_int (fun _ _ => rfl)) (pe_dget (hu1 hr) (pv 3) pe_int (fun _ _ => rfl))) pe_int (fun _ _ => rfl))) (pa_cons (pe_tup (pa_cons pe_int pa_nil)) pa_nil))))) pa_nil)))) pss_nil)
      (pss_one (ps_if (pt_not (pt_val (pe_calF G_law_refused (guards_deeper gu) takes0 (hr.mono (by decide)) rfl (pa_cons (pv 3) (pa_cons (pe_either (pe_ix ix_seq (pv 7) (pe_op op_modG (pe_callTy call_intG (by rfl) T.b_int bt_int (pa_cons (pe_calF G_law_draw (guards_deeper gu) takes0 (hr.mono (by decide)) rfl (pa_cons (pv 1) (pa_cons pe_int pa_nil))) pa_nil)) (pe_callB call_lenF (by rfl) T.b_len bt_len (pa_cons (pv 7) pa_nil))) (fun _ _ => rfl)) (pe_dget (hu1 hr) (pv 7) (pe_op op_modG (pe_callTy call_intG (by rfl) T.b_int bt_int (pa_cons (pe_calF G_law_draw (guards_deeper gu) takes0 (hr.mono (by decide)) rfl (pa_cons (pv 1) (pa_cons pe_int pa_nil))) pa_nil)) (pe_callB call_lenF (by rfl) T.b_len bt_len (pa_cons (pv 7) pa_nil))) (fun _ _ => rfl))) pa_nil))))) (pss_one (ps_ret pe_bl)) pss_nil)))))))))))
      (pss_one (ps_ret pe_bl))))
      (by exact (fun B H f0 vs => (sem_seq (sem_asg (sem_lst (sem_cons (sem_call (sem_cons (sem_n (nin rfl)) (sem_cons sem_int (sem_cons sem_int sem_nil)))) (sem_cons sem_int sem_nil))) (semg_name XD.tt))
      (sem_seq (sem_for (sm_rng1 (sem_cons sem_int sem_nil)) (semg_name XD.tt) (sem_seq (sem_asg (sem_call (sem_cons (sem_n (nin rfl)) (sem_cons sem_int sem_nil))) (semg_name XD.tt))
      (sem_seq (sem_asg (sem_call (sem_cons (sem_n (nin rfl)) (sem_cons (sem_n (nin rfl)) sem_nil))) (semg_name XD.tt))
      (sem_seq (sem_if (sem_tv (sem_op ops_eq (sem_call (sem_cons (sem_n (nin rfl)) (sem_cons sem_int sem_nil))) sem_int)) (sem_asg (sem_call (sem_cons (sem_n (nin rfl)) (sem_cons sem_int sem_nil))) (semg_name XD.tt)) sem_next)
      (sem_seq (sem_asg (sem_call (sem_cons (sem_n (nin rfl)) (sem_cons (sem_n (nin rfl)) sem_nil))) (semg_name XD.tt))
      (sem_seq (sem_if (sem_tor (sem_tnot (sem_tv (sem_call (sem_cons (sem_n (nin rfl)) (sem_cons (sem_call (sem_cons (sem_n (nin rfl)) (sem_cons (sem_n (nin rfl)) sem_nil))) sem_nil))))) (sem_tor (sem_tnot (sem_tv (sem_call (sem_cons (sem_call (sem_cons (sem_n (nin rfl)) (sem_cons (sem_n (nin rfl)) sem_nil))) (sem_cons (sem_n (nin rfl)) sem_nil))))) (sem_tv (sem_op ops_ne (sem_call (sem_cons (sem_n (nin rfl)) (sem_cons (sem_n (nin rfl)) sem_nil))) (sem_lst sem_nil))))) (sem_ret sem_bl) sem_next)
      (sem_seq (sem_asg (sem_b calls_len (sem_cons (sem_n (nin rfl)) sem_nil)) (semg_name XD.tt))
      (sem_seq (sem_asg (sem_lst (sem_cons (sem_tup (sem_cons sem_str (sem_cons (sem_n (nin rfl)) sem_nil))) (sem_cons (sem_tup (sem_cons sem_str (sem_cons (sem_n (nin rfl)) (sem_cons sem_int sem_nil)))) (sem_cons (sem_tup (sem_cons sem_str (sem_cons (sem_n (nin rfl)) (sem_cons (sem_tup (sem_cons sem_int sem_nil)) sem_nil)))) (sem_cons (sem_tup (sem_cons sem_str (sem_cons (sem_op ops_add (sem_n (nin rfl)) sem_int) (sem_cons sem_int (sem_cons (sem_tup (sem_cons sem_int sem_nil)) sem_nil))))) (sem_cons (sem_tup (sem_cons sem_str (sem_cons (sem_neg sem_int) sem_nil))) (sem_cons (sem_tup (sem_cons sem_str (sem_cons sem_int (sem_cons (sem_n (nin rfl)) sem_nil)))) sem_nil))))))) (semg_name XD.tt))
      (sem_seq (sem_if (sem_tv (sem_op ops_gt (sem_n (nin rfl)) sem_int)) (sem_drop (sem_lm met_append (nin rfl) (sem_cons (sem_tup (sem_cons sem_str (sem_cons sem_int (sem_cons (sem_sub (sem_sub (sem_n (nin rfl)) sem_int) sem_int) (sem_cons (sem_tup (sem_cons sem_int sem_nil)) sem_nil))))) sem_nil))) sem_next)
      (sem_if (sem_tnot (sem_tv (sem_call (sem_cons (sem_n (nin rfl)) (sem_cons (sem_sub (sem_n (nin rfl)) (sem_op ops_mod (sem_b calls_int (sem_cons (sem_call (sem_cons (sem_n (nin rfl)) (sem_cons sem_int sem_nil))) sem_nil)) (sem_b calls_len (sem_cons (sem_n (nin rfl)) sem_nil)))) sem_nil))))) (sem_ret sem_bl) sem_next))))))))))
      (sem_ret sem_bl))))) rfl h
  obtain ⟨t, ht, q⟩ := key
  exact ⟨t, PSs.nox ht, q⟩
end
end Z
namespace Z
open PySem PySem.Spec PyProof.Rows L2 GxR
theorem main {ns : List Int} (_ : ns.length ≤ 63) (_ : ∀ z ∈ ns, Builtin.Int.intBits z ≤ 1048576) : ∃ l as ob, F_law [scriptD ns] [] = .ok ⟨.bool true, .fz, l⟩ as ob := by
  have h := (Z2.law_ok ns).run
  match F_law [scriptD ns] [], h with
  | .ok w as ob, h =>
    have h : w = _ := h
    subst h
    exact ⟨_, _, _, rfl⟩
end Z
namespace Z
open PySem PySem.Spec PyProof.Rows L2 GxR
theorem facts {w : World} {h : Heap} {K : PySem.W.Frag} {mg : Str → Option Value} {f : Addr} (X : K.In h) (G : h.Ns mainGlobals mg) (hfa : mg "law" = some (.ref f)) (c : He.SaysX fas fns [] tfs exs w h K) :
    LawG PySem.Challenge.rw_windowtable_k42_moves_lead w K CX0 6 63 "script" mg f h := by
  have T := tx_of X G c
  have e := hfa.symm.trans T.g_law
  cases e
  obtain ⟨fd, F⟩ := T.d_law
  have out' : ∀ p ∈ tfs.map (He.cT K), K.lookup p.2 = none := fun p hp => by
    obtain ⟨q, hq, rfl⟩ := List.mem_map.mp hp
    exact c.out q hq
  refine ⟨fd, tfs.map (He.cT K), (fun vs H Q _ => spF K ((tfs.map (He.cT K)).map (·.2)) 1 F_law vs H Q fun _ _ _ => False), fun p hp => ?_, out', fun p hp => ?_, fun s v => ?_, fun H a ns hn hb hH hS => ?_, fun base hK hN hT => ?_⟩
  · obtain ⟨q, hq, rfl⟩ := List.mem_map.mp hp
    exact c.empty q hq
  · obtain ⟨q, hq, rfl⟩ := List.mem_map.mp hp
    exact PySem.W.codeHd_of_K X (c.hd q hq)
  · exact F.bindsA (ps := ["script"]) (fun _ _ _ _ _ _ us hl => match us, hl with | [_], _ => rfl) s [v] rfl
  · refine law_from (fun P hP => ?_) hS (main hn hb)
    obtain ⟨q, hq, rfl⟩ := List.mem_map.mp hP
    exact hH q hq
  · have mem : ∀ q ∈ tfs, He.cT K q ∈ tfs.map (He.cT K) := fun q hq => List.mem_map.mpr ⟨q, hq, rfl⟩
    have memc : ∀ q ∈ tfs, (He.cT K q).2 ∈ (tfs.map (He.cT K)).map (·.2) := fun q hq => List.mem_map.mpr ⟨_, mem q hq, rfl⟩
    have G_law_cell := ok_law_cell (P := PySem.Challenge.rw_windowtable_k42_moves_lead.prog) (w := w) (base := base) (cs := (tfs.map (He.cT K)).map (·.2)) T 
    have G_law_digits := ok_law_digits (P := PySem.Challenge.rw_windowtable_k42_moves_lead.prog) (w := w) (base := base) (cs := (tfs.map (He.cT K)).map (·.2)) T G_law_cell
    have G_law_draw := ok_law_draw (P := PySem.Challenge.rw_windowtable_k42_moves_lead.prog) (w := w) (base := base) (cs := (tfs.map (He.cT K)).map (·.2)) T 
    have G_law_value := ok_law_value (P := PySem.Challenge.rw_windowtable_k42_moves_lead.prog) (w := w) (base := base) (cs := (tfs.map (He.cT K)).map (·.2)) T G_law_draw
    have G_law_pairs := ok_law_pairs (P := PySem.Challenge.rw_windowtable_k42_moves_lead.prog) (w := w) (base := base) (cs := (tfs.map (He.cT K)).map (·.2)) T G_law_draw G_law_value
    have G_law_near := ok_law_near (P := PySem.Challenge.rw_windowtable_k42_moves_lead.prog) (w := w) (base := base) (cs := (tfs.map (He.cT K)).map (·.2)) T G_law_draw
    have G_outs := ok_outs (P := PySem.Challenge.rw_windowtable_k42_moves_lead.prog) (w := w) (base := base) (cs := (tfs.map (He.cT K)).map (·.2)) T 
    have G_moves := ok_moves (P := PySem.Challenge.rw_windowtable_k42_moves_lead.prog) (w := w) (base := base) (cs := (tfs.map (He.cT K)).map (·.2)) T G_outs
    have G_with_pair := ok_with_pair (P := PySem.Challenge.rw_windowtable_k42_moves_lead.prog) (w := w) (base := base) (cs := (tfs.map (He.cT K)).map (·.2)) T 
    have G_behind_move := ok_behind_move (P := PySem.Challenge.rw_windowtable_k42_moves_lead.prog) (w := w) (base := base) (cs := (tfs.map (He.cT K)).map (·.2)) T G_with_pair
    have G_moved_by := ok_moved_by (P := PySem.Challenge.rw_windowtable_k42_moves_lead.prog) (w := w) (base := base) (cs := (tfs.map (He.cT K)).map (·.2)) T G_moves G_behind_move
    have G_law_refused := ok_law_refused (P := PySem.Challenge.rw_windowtable_k42_moves_lead.prog) (w := w) (base := base) (cs := (tfs.map (He.cT K)).map (·.2)) T G_moved_by
    have G_law_same := ok_law_same (P := PySem.Challenge.rw_windowtable_k42_moves_lead.prog) (w := w) (base := base) (cs := (tfs.map (He.cT K)).map (·.2)) T 
    have G_law_made := ok_law_made (P := PySem.Challenge.rw_windowtable_k42_moves_lead.prog) (w := w) (base := base) (cs := (tfs.map (He.cT K)).map (·.2)) T 
    exact ok_law T G_law_digits G_law_pairs G_law_near G_moves G_law_draw G_law_refused G_law_same G_law_made G_moved_by F
end Z
open PySem PySem.W PySem.Calls PyProof.Rows
set_option maxRecDepth 100000 in
set_option maxHeartbeats 0 in
theorem PySem.Challenge.cw_windowtable_k42_moves_lead_holds : PySem.Challenge.rw_windowtable_k42_moves_lead.Holds := by
  w_on; o_law
  refine HandSHeadRun.head_any (r := OpenLaw.row PySem.Challenge.rw_windowtable_k42_moves_lead) (q := view (OpenLaw.row PySem.Challenge.rw_windowtable_k42_moves_lead).prog [19]) (H := Z.hk) (ob := Z.ob) (M := 6000) (loose := ["__name__", "TableError", "BadFit", "moves", "outs", "moved_by", "behind_move", "with_pair", "_law_cell", "_law_digits", "_law_draw", "_law_same", "_law_value", "_law_made", "_law_pairs", "_law_near", "_law_refused"]) (d := HandSHeadRun.topDef (OpenLaw.row PySem.Challenge.rw_windowtable_k42_moves_lead).prog 19) (kwd := []) (fun s => He.obsX_eq (HandSHeadRun.getT_eq s))
    (by kernel_rfl) (fun s => by kernel_rfl) Z.run (by kernel_rfl) (by kernel_rfl) (by kernel_rfl) (by rfl) (by first | assumption | decide +kernel) (by decide +kernel) ⟨rfl, rfl, rfl, rfl, rfl, by decide +kernel⟩ ?hw ?hc
  case hw => w_witness2
  case hc =>
    refine Z.walk_G (l := PySem.Challenge.rw_windowtable_k42_moves_lead) (n := 63) (k := 6) (x := "script") (CX := fun _ => L2.CX0) rfl (by decide) (by kernel_rfl) ⟨rfl, by decide, by decide⟩ ?F (fun _ _ _ _ _ z => z)
    intro w mg fa h Y G hmg0
    obtain ⟨K, KX, c⟩ := Y
    have hmg : mg ("law" : PySem.Str) = some (.ref fa) := by
      have e : (HandSHeadRun.topDef (OpenLaw.row PySem.Challenge.rw_windowtable_k42_moves_lead).prog 19).name = ("law" : PySem.Str) := by kernel_rfl
      rw [← e]
      exact hmg0
    exact ⟨K, KX, Z.facts KX G hmg c⟩
