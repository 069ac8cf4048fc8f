import PyProof.Rows.All
import Wide.All
import OpenK.AllK
import Wide.FinOn
import HandS.ForMost
import HandS.IsInst
import HandS.DictComp
import HandS.Star
import HandS.Property
import HandS.ClsMeth
import HandS.Zip
import HandS.Wide
import HandS.TupAny
import HandS.ListItems
import KE.KOpsOwn
import KE.GoesMore
import KE.GoesEnum
import KE.GoesZip
import HandS.Walk
import HandS.Lambda
import HandS.TupMul
import HandS.Gcd
import KE.KMathGC
import HandS.ExcInit
import HandS.MakeKwOnly
import KE.KExcSuper
import HandS.Nested
import HandS.FStr
import HandS.ExcSuper
import HandS.ExcOwn
import HandS.RaiseMore
import HandS.ExcField
import HandS.TryMany
import HandS.WordsExc
import HandS.Strs
import HandS.CallLocal
import HandS.GenYield
import HandS.GenList
import HandS.Sort
import KE.KDictList
import HandS.New
import KE.KExcIs
import HandS.ExcIs
import KE.GoesComp
import HandS.Text
import HandS.Replace
import HandS.DeepEq
import PyProof.NeKinds
import PySem.Challenge.RW_barrelrow_k44_whole_operations_reverted
import HandS.Codes
import HandS.More
import HandS.Style
import HandS.EndTab
import KE.KNestM
set_option Elab.async false
set_option maxRecDepth 100000
namespace Bk
open PySem L2

/-! ### heaps that grow, or change at one place -/
/-- all but what stands at st is as it was -/
def Keep (st : Addr) (H H' : Hp) : Prop := ∀ b o, H b = some o → b ≠ st → H' b = some o
theorem Keep.refl (st : Addr) (H : Hp) : Keep st H H := fun _ _ h _ => h
theorem Keep.trans {st : Addr} {H H1 H2 : Hp} (a : Keep st H H1) (b : Keep st H1 H2) : Keep st H H2 := fun c o h n => b c o (a c o h n) n
theorem Keep.same {st : Addr} {H H' : Hp} (e : Same H H') : Keep st H H' := fun c o h _ => e c o h
theorem Keep.upd {st : Addr} {H : Hp} {o : HO} : Keep st H (upd H st o) := fun c u h n => by rw [upd_ne n]; exact h
theorem Same.new {H : Hp} {p : Addr} {o : HO} (h : H p = none) : Same H (upd H p o) := fun c u hc => by rw [upd_ne (ne_of_none hc h)]; exact hc
/-- an object that H does not know may change -/
theorem Same.mut {H H' : Hp} {p : Addr} {o : HO} (e : Same H H') (h : H p = none) : Same H (upd H' p o) := fun a u ha => by
  rw [upd_ne (ne_of_none ha h)]
  exact e a u ha
end Bk
set_option Elab.async false
set_option maxRecDepth 100000
set_option maxHeartbeats 1000000
namespace Bk
open PySem PySem.Spec PyProof.Rows L2
/-! ### what a caller needs of a def, a method, a property, a class -/
section
variable (P : Program) (w : World) (K : PySem.W.Frag) (mg : Str → Option Value) (base : Heap)
structure Callee (x : Str) (k : Nat) (sp : Sp) : Prop where
  ex : ∃ (f : Addr) (fd : FuncData) (ps : List Str), mg x = some (.ref f) ∧ PySem.W.keepIn K (.ref f) = true ∧ Binds K fd ps [] ∧ FnOk P w K mg base CX0 k f fd ps sp
structure CalleeM (C : Addr) (m : Str) (k : Nat) (sp : Sp) : Prop where
  ex : ∃ (f : Addr) (fd : FuncData) (ps : List Str), Meth K C m f ∧ Cls K C ∧ Binds K fd ps [] ∧ FnOk P w K mg base CX0 k f fd ps sp
structure CalleeP (C : Addr) (m : Str) (k : Nat) (sp : Sp) : Prop where
  ex : ∃ (p g : Addr) (fd : FuncData) (ps : List Str), PropOf K C m p g ∧ Cls K C ∧ Binds K fd ps [] ∧ FnOk P w K mg base CX0 k g fd ps sp
structure Maker (x : Str) (C : Addr) (k : Nat) (sp : Sp) : Prop where
  ex : ∃ (f : Addr) (fd : FuncData) (ps : List Str), Mk K C f ∧ mg x = some (.ref C) ∧ Binds K fd ps [] ∧ FnOk P w K mg base CX0 k f fd ps sp
structure MakerR (x : Str) (C : Addr) (k : Nat) (sp : Sp) : Prop where
  ex : ∃ (f : Addr), Mk K C f ∧ mg x = some (.ref C) ∧ FnR P w K mg base CX0 k f sp
/-- an operator of the class at C -/
structure CalleeO (C : Addr) (m : Str) (k : Nat) (sp : Sp) : Prop where
  ex : ∃ (f : Addr) (fd : FuncData) (ps : List Str), PySem.W.findIn K (.ref C) m = some (some (.ref f)) ∧ PySem.W.isFn K (.ref f) = true ∧ PySem.W.fnIn K f = true ∧ Binds K fd ps [] ∧ FnOk P w K mg base CX0 k f fd ps sp
end
section
variable {X : Cx} {k j : Nat} {sp : Sp} {x m : Str} {p pos apos : Pos} {e : Expr} {es : List Expr} {t : TA} {C : Addr} {o : Expr} {ta : TE}
theorem pe_callF (c : Callee X.prog X.w X.K X.mg X.base x k sp) (hr : Room k X.A) (hg : Gl X x) (ha : PA X (e :: es) t) (hd : (x == ("__debug__" : Str)) = false := by decide)
    (hst : starEach (e :: es) X.env = (false, eval e X.env) :: starEach es X.env := by rfl) (hpl : (backTo pos (starEach es X.env)).any (·.1) = false := by rfl) :
    PE X (.Call (.Name x p) (e :: es) [] pos) (tCall sp [] E0 t) := by
  obtain ⟨f, fd, ps, h1, h2, h3, h4⟩ := c.ex
  exact pe_call h4 hr hg h1 h2 h3 .nil pass0 ha (hd) (hst) (hpl)
theorem pe_methF {pl : Sem Bool} (c : CalleeM X.prog X.w X.K X.mg X.base C m k sp) (hr : Room k X.A) (he : PE X o ta) (ha : PA X (e :: es) t)
    (hst : starEach (e :: es) X.env = (false, eval e X.env) :: starEach es X.env := by rfl) (hpl : (backTo pos (starEach es X.env)).any (·.1) = false := by rfl)
    (ht : eval (.Call (.Attribute o m apos) (e :: es) [] pos) X.env = (do
      let ov ← eval o X.env
      standAt apos.atName
      let (f, first) ← holding [ov] (getMethod ov m pl)
      callWith pos f first (backTo pos (starEach (e :: es) X.env)) (backToKw pos (keywordEach [] X.env))) := by rfl) :
    PE X (.Call (.Attribute o m apos) (e :: es) [] pos) (tMeth C m sp [] E0 ta t) := by
  obtain ⟨f, fd, ps, h1, h2, h3, h4⟩ := c.ex
  exact pe_meth he h2 h1 h4 hr h3 .nil pass0 ha hst hpl ht
theorem pe_methF0 {pl : Sem Bool} (c : CalleeM X.prog X.w X.K X.mg X.base C m k sp) (hr : Room k X.A) (he : PE X o ta)
    (ht : eval (.Call (.Attribute o m apos) [] [] pos) X.env = (do
      let ov ← eval o X.env
      standAt apos.atName
      let (f, first) ← holding [ov] (getMethod ov m pl)
      callWith pos f first (backTo pos (starEach [] X.env)) (backToKw pos (keywordEach [] X.env))) := by rfl) :
    PE X (.Call (.Attribute o m apos) [] [] pos) (tMeth C m sp [] E0 ta tNil) := by
  obtain ⟨f, fd, ps, h1, h2, h3, h4⟩ := c.ex
  exact pe_meth0 he h2 h1 h4 hr h3 .nil pass0 ht
theorem pe_propF (c : CalleeP X.prog X.w X.K X.mg X.base C m k sp) (hr : Room (k + 1) X.A) (he : PE X e ta) (hab : attributeBase e m X.env (eval e X.env) = eval e X.env) :
    PE X (.Attribute e m pos) (tProp C sp [] E0 ta) := by
  obtain ⟨p, g, fd, ps, h1, h2, h3, h4⟩ := c.ex
  exact pe_prop he h2 h1 h4 hr h3 .nil pass0 hab
theorem pe_makeF (c : Maker X.prog X.w X.K X.mg X.base x C k sp) (hr : Room (k + 1) X.A) (hg : Gl X x) (ha : PA X (e :: es) t) (hd : (x == ("__debug__" : Str)) = false := by decide)
    (hst : starEach (e :: es) X.env = (false, eval e X.env) :: starEach es X.env := by rfl) (hpl : (backTo pos (starEach es X.env)).any (·.1) = false := by rfl) :
    PE X (.Call (.Name x p) (e :: es) [] pos) (tMake C sp [] E0 t) := by
  obtain ⟨f, fd, ps, h1, h2, h3, h4⟩ := c.ex
  exact pe_make h1 h4 hr hg h2 h3 .nil pass0 ha (hd) (hst) (hpl)
theorem pe_makeFR (c : MakerR X.prog X.w X.K X.mg X.base x C k sp) (hr : Room (k + 1) X.A) (hg : Gl X x) (ha : PA X (e :: es) t) (hd : (x == ("__debug__" : Str)) = false := by decide)
    (hst : starEach (e :: es) X.env = (false, eval e X.env) :: starEach es X.env := by rfl) (hpl : (backTo pos (starEach es X.env)).any (·.1) = false := by rfl) :
    PE X (.Call (.Name x p) (e :: es) [] pos) (StX.tMakeR C sp E0 t) := by
  obtain ⟨f, h1, h2, h4⟩ := c.ex
  exact StX.pe_makeR h1 h4 hr hg h2 pass0 ha hd hst hpl
theorem Callee.mono {P : Program} {w : World} {K : PySem.W.Frag} {mg : Str → Option Value} {base : Heap} (c : Callee P w K mg base x k sp) (h : k ≤ j) : Callee P w K mg base x j sp := by
  obtain ⟨f, fd, ps, h1, h2, h3, h4⟩ := c.ex
  exact ⟨f, fd, ps, h1, h2, h3, h4.mono h⟩
/-! ### own operators -/
/-- what an own operator's result must be: no NotImplemented -/
theorem cmpBack_of {pins : List (Addr × Obj)} {σ : L2.St} {Q : VK} {u : Value} {s' : Shared} (h : EP X pins σ Q u s') : PySem.W.CmpBack (EP X pins σ Q) u s' := by
  obtain ⟨v, H', I, r, q⟩ := h
  cases v with
  | non => cases (show u = Value.none from r); exact ⟨.non, H', I, rfl, q⟩
  | bl b => cases (show u = Value.bool b from r); exact ⟨.bl b, H', I, rfl, q⟩
  | int i => obtain ⟨t, e⟩ := (show ∃ t, u = Value.int i t from r); subst e; exact ⟨.int i, H', I, ⟨t, rfl⟩, q⟩
  | str i => obtain ⟨t, e⟩ := (show ∃ t, u = Value.str i t from r); subst e; exact ⟨.str i, H', I, ⟨t, rfl⟩, q⟩
  | byt i => obtain ⟨t, e⟩ := (show ∃ t, u = Value.bytes i t from r); subst e; exact ⟨.byt i, H', I, ⟨t, rfl⟩, q⟩
  | flt i => obtain ⟨t, e⟩ := (show ∃ t, u = Value.float i t from r); subst e; exact ⟨.flt i, H', I, ⟨t, rfl⟩, q⟩
  | ref a => cases (show u = Value.ref a from r); exact ⟨.ref a, H', I, rfl, q⟩
  | ty n => cases (show u = Value.type n from r); exact ⟨.ty n, H', I, rfl, q⟩
theorem run_own {pins : List (Addr × Obj)} {σ : L2.St} {H : Hp} {s : Shared} {Q : VK} {f : Addr} {fd : FuncData} {ps : List Str} {us : List Value} {vs : List V}
    (F : FnOk X.prog X.w X.K X.mg X.base CX0 k f fd ps sp) (hb : Binds X.K fd ps []) (hr : Room k X.A) (I : Inv X pins σ H s) (r : Vals vs us) (h : sp vs H Q E0) :
    wpAny (model X.prog X.w) X.A (call (.ref f) us) (EP X pins σ Q) X.xe s := by
  have e : vs ++ ([] : List V) = vs := List.append_nil vs
  have G := F.raw hb (.nil : Vals [] [])
  refine wpAny_call (run_fnR G hr pass0 I r (E := E0) ?_)
  show sp (vs ++ []) H Q E0
  rw [e]
  exact h
/-- a op b, a an instance of C, b one too -/
def rOwn (C : Addr) (sp : Sp) : R2 := fun x y H Q => ∃ (a b dx dy : Addr) (fs gs : List (Str × V)), x = .ref a ∧ y = .ref b ∧ H a = some (.ins C dx fs) ∧ H b = some (.ins C dy gs) ∧ sp [x, y] H Q E0
theorem op_own {op : Operator} (c : CalleeO X.prog X.w X.K X.mg X.base C (PySem.dunder op.info.2) k sp) (hs : PySem.W.selfFirst X.K C = true) (hr : Room k X.A) : OpR X (binaryOp op) (rOwn C sp) := by
  intro pins s σ H x y v u Q I rx ry hq
  obtain ⟨a, b, dx, dy, fs, gs, rfl, rfl, ha, hb, q⟩ := hq
  obtain ⟨f, fd, ps, h1, h2, h5, h3, h4⟩ := c.ex
  obtain rfl : v = Value.ref a := rx
  obtain rfl : u = Value.ref b := ry
  obtain ⟨mA, J, _⟩ := ins_get I.hok ha
  obtain ⟨mB, J', _⟩ := ins_get I.hok hb
  obtain ⟨od, J, _⟩ := J.look
  obtain ⟨od', J', _⟩ := J'.look
  obtain ⟨m, hF⟩ := I.fr
  refine PySem.W.binop_K hF I.ok.mod.kin J J'.type hs h1 h2 ?_
  exact wpAny_mono (run_own h4 h3 hr I (us := [.ref a, .ref b]) (vs := [.ref a, .ref b]) (.cons rfl (.cons rfl .nil)) q) (fun _ _ z => cmpBack_of z) fun _ _ z => z
/-- x in a, x not in a: a an instance of C with its own __contains__ that gives True or False -/
def rInOwn (C : Addr) (sp : Sp) (neg : Bool) : R2 := fun x y H Q => ∃ (a dx : Addr) (fs : List (Str × V)), y = .ref a ∧ H a = some (.ins C dx fs) ∧ sp [y, x] H (fun r H' => ∃ b, r = .bl b ∧ Q (.bl (neg ^^ b)) H') E0
theorem op_inOwn (c : CalleeO X.prog X.w X.K X.mg X.base C "__contains__" k sp) (hr : Room k X.A) : OpR X (compareOp .In) (rInOwn C sp false) := by
  intro pins s σ H x y v u Q I rx ry hq
  obtain ⟨a, dx, fs, rfl, ha, q⟩ := hq
  obtain ⟨f, fd, ps, h1, h2, h5, h3, h4⟩ := c.ex
  obtain rfl : u = Value.ref a := ry
  obtain ⟨mA, J, _⟩ := ins_get I.hok ha
  obtain ⟨od, J, _⟩ := J.look
  obtain ⟨m, hF⟩ := I.fr
  refine PySem.W.in_K hF I.ok.mod.kin J h1 h2 ?_
  refine wpAny_mono (run_own h4 h3 hr I (us := [.ref a, v]) (vs := [.ref a, x]) (.cons rfl (.cons rx .nil)) q) (fun r s' z => ?_) fun _ _ z => z
  obtain ⟨vv, H', I', rr, b, rfl, qq⟩ := z
  obtain rfl : r = Value.bool b := rr
  exact wpAny_pure ⟨.bl b, H', I', rfl, by simpa using qq⟩
theorem op_notInOwn (c : CalleeO X.prog X.w X.K X.mg X.base C "__contains__" k sp) (hr : Room k X.A) : OpR X (compareOp .NotIn) (rInOwn C sp true) := by
  intro pins s σ H x y v u Q I rx ry hq
  obtain ⟨a, dx, fs, rfl, ha, q⟩ := hq
  obtain ⟨f, fd, ps, h1, h2, h5, h3, h4⟩ := c.ex
  obtain rfl : u = Value.ref a := ry
  obtain ⟨mA, J, _⟩ := ins_get I.hok ha
  obtain ⟨od, J, _⟩ := J.look
  obtain ⟨m, hF⟩ := I.fr
  refine PySem.W.notIn_K hF I.ok.mod.kin J h1 h2 ?_
  refine wpAny_mono (run_own h4 h3 hr I (us := [.ref a, v]) (vs := [.ref a, x]) (.cons rfl (.cons rx .nil)) q) (fun r s' z => ?_) fun _ _ z => z
  obtain ⟨vv, H', I', rr, b, rfl, qq⟩ := z
  obtain rfl : r = Value.bool b := rr
  exact wpAny_pure ⟨.bl (!b), H', I', rfl, by simpa using qq⟩
/-- an instance called -/
theorem pe_callOF {fe : Expr} {tf : TE} (hf : PE X fe tf) (c : CalleeO X.prog X.w X.K X.mg X.base C "__call__" k sp) (hr : Room k X.A) (ha : PA X (e :: es) t)
    (ht : eval (.Call fe (e :: es) [] pos) X.env = (do callWith pos (← eval fe X.env) [] (backTo pos (starEach (e :: es) X.env)) (backToKw pos (keywordEach [] X.env))) := by rfl)
    (he : starEach (e :: es) X.env = (false, eval e X.env) :: starEach es X.env := by rfl) (hpl : (backTo pos (starEach es X.env)).any (·.1) = false := by rfl) :
    PE X (.Call fe (e :: es) [] pos) (StX.tCallO X C (fun vs H Q E => sp (vs ++ []) H Q E) E0 tf t) := by
  obtain ⟨f, fd, ps, h1, h2, h5, h3, h4⟩ := c.ex
  exact StX.pe_callO hf ⟨h1, h2, h5⟩ (h4.raw h3 .nil) hr pass0 ha ht he hpl
end
end Bk
namespace Bk
open PySem PySem.Spec PyProof.Rows L2
theorem pe_globI {X : Cx} {x : Str} {pos : Pos} {i : Int} (hg : Gl X x) (hm : ∃ t, X.mg x = some (.int i t)) (hd : (x == ("__debug__" : Str)) = false := by decide) : PE X (.Name x pos) (tC (.int i)) := by
  obtain ⟨t, h⟩ := hm
  exact pe_glob (v := .int i) hg h ⟨t, rfl⟩ (hd)
theorem bt_len : bootBuiltins "len" = some (.builtin "len") := PySem.boot_len
theorem bt_sum : bootBuiltins "sum" = some (.builtin "sum") := by decide +kernel
theorem bt_min : bootBuiltins "min" = some (.builtin "min") := by decide +kernel
theorem bt_max : bootBuiltins "max" = some (.builtin "max") := by decide +kernel
theorem bt_all : bootBuiltins "all" = some (.builtin "all") := by decide +kernel
theorem bt_any : bootBuiltins "any" = some (.builtin "any") := by decide +kernel
theorem bt_divmod : bootBuiltins "divmod" = some (.builtin "divmod") := by decide +kernel
theorem bt_isinstance : bootBuiltins "isinstance" = some (.builtin "isinstance") := by decide +kernel
theorem bt_tuple : bootBuiltins "tuple" = some (.type "tuple") := by decide +kernel
theorem bt_list : bootBuiltins "list" = some (.type "list") := by decide +kernel
theorem bt_int : bootBuiltins "int" = some (.type "int") := by decide +kernel
theorem bt_bool : bootBuiltins "bool" = some (.type "bool") := by decide +kernel
/-! ### facts of the module's names -/
structure Nb (mg : Str → Option Value) : Prop where
  n_len : mg "len" = none
  n_sum : mg "sum" = none
  n_min : mg "min" = none
  n_max : mg "max" = none
  n_all : mg "all" = none
  n_divmod : mg "divmod" = none
  n_isinstance : mg "isinstance" = none
  n_tuple : mg "tuple" = none
  n_list : mg "list" = none
  n_int : mg "int" = none
  n_bool : mg "bool" = none
  n_range : mg "range" = none
  n_zip : mg "zip" = none
  n_enumerate : mg "enumerate" = none
end Bk
namespace Bk
open PySem PySem.Spec PyProof.Rows L2
/-! ### rules whose reading speaks of X.K, for a comprehension's own block -/
theorem ixK {X : Cx} {K : PySem.W.Frag} {r : PySem.W.Frag → R2} (h : X.K = K) (x : IxR X (r X.K)) : IxR X (r K) := h ▸ x
theorem opK {X : Cx} {K : PySem.W.Frag} {r : PySem.W.Frag → R2} {o : Value → Value → Sem Value} (h : X.K = K) (x : OpR X o (r X.K)) : OpR X o (r K) := h ▸ x
theorem crK {X : Cx} {K : PySem.W.Frag} {r : PySem.W.Frag → List V → Hp → VK → Prop} {o : Value} (h : X.K = K) (x : CallR X o (r X.K)) : CallR X o (r K) := h ▸ x
def rLenS (K : PySem.W.Frag) : List V → Hp → VK → Prop := fun xs H Q => ∃ p ys, xs = [.ref p] ∧ (SqL K H p ys ∨ SqT K H p ys) ∧ Q (.int ys.length) H
theorem pe_fldK {X : Cx} {K : PySem.W.Frag} {e : Expr} {f : Str} {pos : Pos} {ta : TE} (h : X.K = K) (x : PE X (.Attribute e f pos) (tFld X.K ta f)) : PE X (.Attribute e f pos) (tFld K ta f) := h ▸ x
end Bk
namespace Bk
open PySem PySem.Spec PyProof.Rows L2
theorem pe_makeFS {X : Cx} {k : Nat} {sp : Sp} {x : Str} {p pos : Pos} {e : Expr} {es : List Expr} {t : TA} {C : Addr} (c : MakerR X.prog X.w X.K X.mg X.base x C k sp) (hr : Room (k + 1) X.A) (hg : Gl X x) (ha : PA X (e :: es) t) (hd : (x == ("__debug__" : Str)) = false := by decide)
    (he : starEach (e :: es) X.env = (false, eval e X.env) :: starEach es X.env := by rfl) (hst : (backTo pos (starEach es X.env)).any (·.1) = true := by rfl) :
    PE X (.Call (.Name x p) (e :: es) [] pos) (StX.tMakeR C sp E0 t) := by
  obtain ⟨f, M, hm, F⟩ := c.ex
  refine ⟨fun pins s σ H Q I h => ?_⟩
  refine wpAny_Call_Name_kw (ld_glob I hg hm ?_ hd)
  refine PySem.W.callWith_S2 (h₀ := X.base) I.ok.mod.kin M.kp (thn (ha.run pos pins s σ H _ I h) fun us s1 ⟨vs, H1, I1, r, q⟩ => ⟨I1.kIn, ?_⟩) he hst
  exact StX.run_makeR M F hr pass0 I1 r q
end Bk
namespace Bk
open PySem PySem.Spec PyProof.Rows L2
/-- a tuple's slice, itself or a new one -/
def rSlS (K : PySem.W.Frag) : V → Option Int → Option Int → Hp → VK → Prop := fun x lo hi H Q => ∃ a xs, x = .ref a ∧ SqT K H a xs ∧ ∀ q H', Same H H' → SqT K H' q (cutV xs lo hi) → Q (.ref q) H'
theorem sl_tupS {X : Cx} : SlR X (rSlS X.K) := by
  intro pins s σ H x v vl vu lo hi sl Q I rx hs pl pu h
  obtain ⟨a, xs, ex, ha, k⟩ := h
  refine sl_tupA pins s σ H x v vl vu lo hi sl Q I rx hs pl pu ⟨a, xs, ex, ha, fun hw => ?_, fun _ p np => ?_⟩
  · have e : cutV xs lo hi = xs := by
      show (xs.drop (HT.sIx xs.length 0 lo)).take (HT.sIx xs.length xs.length hi - HT.sIx xs.length 0 lo) = xs
      rw [hw.1, hw.2]
      simp
    have := k a H (Same.refl H) (by rw [e]; exact ha)
    exact this
  · exact k p _ (Same.new np) (.inl (.inl upd_same))
end Bk
namespace Bk
open PySem PySem.Spec PyProof.Rows L2
theorem slK {X : Cx} {K : PySem.W.Frag} {r : PySem.W.Frag → V → Option Int → Option Int → Hp → VK → Prop} (h : X.K = K) (x : SlR X (r X.K)) : SlR X (r K) := h ▸ x
end Bk
set_option Elab.async false
set_option maxRecDepth 100000
set_option maxHeartbeats 1000000
namespace Bk
open PySem PySem.Spec PyProof.Rows L2
section
variable {X : Cx} {k j : Nat} {sp : Sp} {x m : Str} {p pos apos : Pos} {e : Expr} {es : List Expr} {t : TA} {C : Addr} {o : Expr} {ta tb : TE}
/-- an own method called one builtin's call further in -/
theorem run_own1 {pins : List (Addr × Obj)} {σ : L2.St} {H : Hp} {s : Shared} {Q : VK} {f : Addr} {fd : FuncData} {ps : List Str} {us : List Value} {vs : List V} {xe : Value → Shared → Prop}
    (F : FnOk X.prog X.w X.K X.mg X.base CX0 k f fd ps sp) (hb : Binds X.K fd ps []) (hr : Room (k + 1) X.A) (I : Inv X pins σ H s) (r : Vals vs us) (h : sp vs H Q E0) :
    wpAny (model X.prog X.w) X.A.in1 (call (.ref f) us) (EP X pins σ Q) xe s := by
  have r2 : Vals (vs ++ []) (us ++ []) := r.append .nil
  have e : vs ++ ([] : List V) = vs := List.append_nil vs
  have h' : sp (vs ++ []) H Q E0 := by rw [e]; exact h
  have hl : (us ++ []).length = ps.length := by rw [← r2.length]; exact F.len _ _ _ _ h'
  refine wpAny_call (codeAny_mono (F.run X.A.in1 X.stack s H ⟨us, []⟩ (us ++ []) (vs ++ []) Q E0 hr.in1 I.env0.in1 (hb s us I.kIn hl) r2 h') fun r s' hq => ?_)
  cases r with
  | error er => exact False.elim ((pass0 : Passes CX0 X.nox E0) pins σ H s er s' (I.wish _) hq)
  | ok fl =>
    cases fl with
    | ret u => exact I.after hq
    | next => exact False.elim hq
    | brk => exact False.elim hq
    | cont => exact False.elim hq
/-- len(a), a an instance of C with its own __len__ -/
theorem call_lenOwn (c : CalleeO X.prog X.w X.K X.mg X.base C "__len__" k sp) (hr : Room (k + 1) X.A) :
    CallR X (.builtin "len") (fun xs H Q => ∃ (a dx : Addr) (fs : List (Str × V)), xs = [.ref a] ∧ H a = some (.ins C dx fs) ∧ sp [.ref a] H (fun r H' => ∃ n : Nat, r = .int n ∧ n < 1000000 ∧ Q (.int n) H') E0) := by
  intro pins s σ H xs us Q I r h
  obtain ⟨a, dx, fs, rfl, ha, q⟩ := h
  obtain ⟨f, fd, ps, h1, h2, h5, h3, h4⟩ := c.ex
  obtain ⟨u, rfl, ru⟩ := vals1 r
  obtain rfl : u = Value.ref a := ru
  obtain ⟨mA, J, _⟩ := ins_get I.hok ha
  obtain ⟨od, J, _⟩ := J.look
  refine Calls.call_function_entry kind_len plain_len entry_len (args_len1 _) ?_
  unfold Builtin.«len»
  refine wpAny_bind (m := oneArg "len" _) (wpAny_pure ?_)
  refine wpAny_bind (m := callSpecial? (.ref a) (Str.ofString "__len__")) (PySem.W.special_fn I.kIn J h1 (beq_iff_eq.mp h2) (wpAny_mono (run_own1 h4 h3 hr I (us := [.ref a]) (vs := [.ref a]) (.cons rfl .nil) q) (fun r s' hr => ?_) fun _ _ y => y))
  obtain ⟨vv, H', I', rr, n, rfl, hn, qq⟩ := hr
  obtain ⟨tk, rfl⟩ : ∃ tk, r = Value.int n tk := rr
  refine wpAny_bind (wpAny_holding (wpAny_pure ?_))
  refine wpAny_bind (wpAny_letGo ?_)
  show wpAny _ _ (if ((n : Nat) : Int) < 0 then _ else _) _ _ _
  rw [if_neg (by omega)]
  show wpAny _ _ (if ((n : Nat) : Int) ≥ 2 ^ 63 then _ else _) _ _ _
  rw [if_neg (by omega)]
  exact wpAny_bind (wpAny_mkInt (wpAny_pure ⟨_, rfl, .int n, H', I'.tok _, ⟨_, rfl⟩, qq⟩))
/-- a[i], a an instance of C with its own __getitem__ -/
theorem pe_itemOwn (c : CalleeO X.prog X.w X.K X.mg X.base C "__getitem__" k sp) (hr : Room (k + 1) X.A) {a b : Expr} (ha : PE X a ta) (hb : PE X b tb)
    (hs : ∀ ov iv, subscripted b true ov iv = runValue (.builtin "lifetime.subscript" ⟨[ov, iv], []⟩) := by intros; with_unfolding_all rfl) :
    PE X (.Subscript a b pos) (tOp (fun x y H Q => ∃ (q dx : Addr) (fs : List (Str × V)), x = .ref q ∧ H q = some (.ins C dx fs) ∧ sp [x, y] H Q E0) ta tb) := by
  refine ⟨fun pins s σ H Q I h => ?_⟩
  refine Subscript_ (binT ha hb I h fun v u s2 x y H2 I2 rx ry q => ?_)
  obtain ⟨a, dx, fs, rfl, hq, q⟩ := q
  obtain ⟨f, fd, ps, h1, h2, h5, h3, h4⟩ := c.ex
  obtain rfl : v = Value.ref a := rx
  obtain ⟨mA, J, _⟩ := ins_get I2.hok hq
  obtain ⟨od, J, _⟩ := J.look
  obtain ⟨m, hF⟩ := I2.fr
  exact PySem.W.sub_K hF I2.ok.mod.kin J h1 h5 h2 (run_own1 h4 h3 hr I2 (us := [.ref a, u]) (vs := [.ref a, y]) (.cons rfl (.cons ry .nil)) q) (hs _ _)
/-- an instance called: a reading without X, for a comprehension's block -/
def tCallI (C : Addr) (sp : Sp) (E : XK) (tf : TE) (t : TA) : TE := fun σ H Q => tf σ H fun y H1 => ∃ a, y = V.ref a ∧ t σ H1 fun vs H2 => (∃ dx fs, H2 a = some (.ins C dx fs)) ∧ sp (V.ref a :: vs) H2 Q E
theorem pe_callOI {fe : Expr} {tf : TE} (hf : PE X fe tf) (c : CalleeO X.prog X.w X.K X.mg X.base C "__call__" k sp) (hr : Room k X.A) (ha : PA X (e :: es) t)
    (ht : eval (.Call fe (e :: es) [] pos) X.env = (do callWith pos (← eval fe X.env) [] (backTo pos (starEach (e :: es) X.env)) (backToKw pos (keywordEach [] X.env))) := by rfl)
    (he : starEach (e :: es) X.env = (false, eval e X.env) :: starEach es X.env := by rfl) (hpl : (backTo pos (starEach es X.env)).any (·.1) = false := by rfl) :
    PE X (.Call fe (e :: es) [] pos) (tCallI C (fun vs H Q E => sp (vs ++ []) H Q E) E0 tf t) := by
  obtain ⟨f, fd, ps, h1, h2, h5, h3, h4⟩ := c.ex
  refine ⟨fun pins s σ H Q I h => ?_⟩
  refine Call_ (thn (hf.run pins s σ H _ I h) fun u s1 ⟨y, H1, I1, ry, a, ey, q⟩ => ?_) ht
  subst ey
  obtain rfl : u = Value.ref a := ry
  refine StX.callO_with (thn (ha.run pos pins s1 σ H1 _ I1 q) fun us s2 ⟨vs, H2, I2, r, ⟨dx, fs, hi⟩, q2⟩ => ?_) he hpl
  have hi' : StX.InsC X H2 a C := .inr ⟨dx, fs, hi⟩
  obtain ⟨ox, od, J, hd⟩ := StX.insC_at I2 hi'
  exact ⟨⟨C, ox, od, J, hd⟩, StX.run_callO ⟨h1, h2, h5⟩ (h4.raw h3 .nil) hr pass0 I2 hi' r q2⟩
/-- a != b by C's own __eq__, b an instance of C too -/
def rNeOwn (C : Addr) (sp : Sp) : R2 := fun x y H Q => ∃ (a b dx dy : Addr) (fs gs : List (Str × V)), x = .ref a ∧ y = .ref b ∧ H a = some (.ins C dx fs) ∧ H b = some (.ins C dy gs) ∧ sp [x, y] H (fun r H' => ∃ c, r = .bl c ∧ Q (.bl (!c)) H') E0
theorem op_neOwn (c : CalleeO X.prog X.w X.K X.mg X.base C "__eq__" k sp) (hne : PySem.W.findIn X.K (.ref C) "__ne__" = some (some (.builtin "object.__ne__"))) (hm : PySem.W.mroIn X.K C (.type "object") = some true) (hr : Room (k + 1) X.A) (hu : X.A.units + 1 < cLine) : OpR X (compareOp .NotEq) (rNeOwn C sp) := by
  intro pins s σ H x y v u Q I rx ry hq
  obtain ⟨a, b, dx, dy, fs, gs, rfl, rfl, ha, hb, q⟩ := hq
  obtain ⟨f, fd, ps, h1, h2, h5, h3, h4⟩ := c.ex
  obtain rfl : v = Value.ref a := rx
  obtain rfl : u = Value.ref b := ry
  obtain ⟨mA, J, _⟩ := ins_get I.hok ha
  obtain ⟨mB, J', _⟩ := ins_get I.hok hb
  obtain ⟨od, J, _⟩ := J.look
  obtain ⟨od', J', _⟩ := J'.look
  refine PySem.W.cmp_ofNotEq ?_
  unfold richCompare
  simp only [oneThing_ref]
  refine wpAny_holding (wpAny_bind (wpAny_cRoomFor (Nat.lt_of_succ_lt hu) ?_))
  rw [cmpInfo_NotEq]
  dsimp only
  refine wpAny_bind (J.type.here (wpAny_bind (J'.type.here ?_)))
  rw [show (Value.ref C != Value.ref C) = false from by simp]
  simp only [Bool.false_eq_true, if_false]
  refine wpAny_bind (wpAny_pure ?_)
  simp only [Bool.false_eq_true, if_false]
  have one : wpAny (model X.prog X.w) X.A (tryCompare (.ref a) "__ne__" (.ref b)) (fun r s' => ∃ v, r = some v ∧ EP X pins σ Q v s') X.xe s := by
    unfold tryCompare
    refine wpAny_bind ?_
    simp only [callSpecialIfBound?, bindSpecialIfBound?]
    refine wpAny_holding (wpAny_bind (wpAny_bind (wpAny_bind (J.type.here ((PySem.W.looks_findIn I.kIn hne).here ?_)))))
    refine wpAny_bind (wpAny_askSetting (wpAny_ite ?_))
    have fin : wpAny (model X.prog X.w) X.A (call (.builtin "object.__ne__") [.ref a, .ref b]) (fun v s' => ∃ c, v = .bool c ∧ EP X pins σ Q (.bool c) s') X.xe s := by
      refine wpAny_call (codeAny_call_builtin F.cmp_object.ne.plain F.cmpEntry_ne (PySem.W.check_slot F.cmpKind_ne F.cmpSplit_ne (J.type.andThen (PySem.W.looks_mroIn I.kIn hm)) (F.cmpArgs_ne _ _) ?_))
      unfold Builtin.«object.__ne__»
      refine wpAny_bind (m := slotArgs "__ne__" 1 _) (wpAny_pure ?_)
      dsimp only
      refine wpAny_bind (wpAny_cRoomFor hu ?_)
      refine wpAny_bind (PySem.W.ifBound_K I.kIn J h1 h2 (wpAny_mono (run_own1 h4 h3 hr I (us := [.ref a, .ref b]) (vs := [.ref a, .ref b]) (.cons rfl (.cons rfl .nil)) q) (fun r s' z => ?_) fun _ _ y => y))
      obtain ⟨vv, H', I', rr, c, rfl, qq⟩ := z
      obtain rfl : r = Value.bool c := rr
      dsimp only
      refine wpAny_bind (m := truthy (.bool c)) (wpAny_truthy_bool ?_)
      exact wpAny_pure ⟨!c, rfl, .bl (!c), H', I', rfl, qq⟩
    have fin2 : wpAny (model X.prog X.w) X.A (call (.builtin "object.__ne__") ([.ref a] ++ [.ref b]) >>= fun v => pure (some v)) (fun r s' => ∃ c, r = some (.bool c) ∧ EP X pins σ Q (.bool c) s') X.xe s :=
      wpAny_bind (wpAny_mono fin (fun v s' h' => wpAny_pure (by obtain ⟨c, rfl, z⟩ := h'; exact ⟨c, rfl, z⟩)) fun _ _ h' => h')
    split
    · exact wpAny_bind (wpAny_of_eq (F.cmp_object.ne.bind _) (wpAny_pure (wpAny_mono fin2 (fun r s' h' => by obtain ⟨c, rfl, z⟩ := h'; exact wpAny_pure ⟨_, rfl, z⟩) fun _ _ h' => h')))
    · exact wpAny_tryCatch (wpAny_bind (wpAny_of_eq (F.cmp_object.ne.bind _) (wpAny_pure (wpAny_mono fin2 (fun r s' h' => by obtain ⟨c, rfl, z⟩ := h'; exact wpAny_pure ⟨_, rfl, z⟩) fun _ _ h' => h'))))
  refine wpAny_bind (wpAny_mono one (fun r s' z => ?_) fun _ _ e => e)
  obtain ⟨v, rfl, z⟩ := z
  exact wpAny_pure z
end
/-! ### walks within a comprehension's block -/
theorem pi_listK {X : Cx} {K : PySem.W.Frag} {tg l : Expr} {tl : TE} (e : K = X.K) (h : PE X l tl) : PI X tg l (iList K tl) := by subst e; exact pi_list h
theorem pi_tupK {X : Cx} {K : PySem.W.Frag} {tg l : Expr} {tl : TE} (e : K = X.K) (h : PE X l tl) : PI X tg l (iTup K tl) := by subst e; exact pi_tup h
/-- sum of a tuple of ints -/
def rSumT (K : PySem.W.Frag) : List V → Hp → VK → Prop := fun vs H Q => ∃ (a : Addr) (ns : List Int), vs = [V.ref a] ∧ SqT K H a (ns.map V.int) ∧ Q (.int ns.sum) H
theorem cr_sumT {X : Cx} (hc : X.calm = true) : CallR X (.builtin "sum") (rSumT X.K) := by
  intro pins s σ H vs us Q I r h
  obtain ⟨a, ns, rfl, hs, q⟩ := h
  obtain ⟨its, rv, hl, _⟩ := I.tuple hs
  rw [Vals.ref1 r]
  have hl' : s.heap.IsTuple a its.toArray := by
    obtain ⟨o, ho, hc, n, hd⟩ := hl
    exact ⟨o, ho, hc, n, hd⟩
  obtain ⟨xs, e⟩ := rv.ints.allInts.items
  have hn : numsOf (intItems xs).toList = ns := by rw [← e]; exact rv.ints.numsOf
  rw [nums_intItems] at hn
  rw [e] at hl'
  have hh := I.ok.hd hc
  have hlt : a < s.heap.objs.size := by obtain ⟨_, e, _⟩ := hl'; exact Heap.lt_size e
  refine call_sum_walkG (wpAny_pyIter_tuple hl' ?_)
  refine ⟨_, _, _, _, _, _, numAt xs, rfl, Walks.tuple (A := X.A.in1) hh _ a (Nat.ne_of_lt hlt) (intItems xs), ⟨⟨_, Heap.get?_push_size _ rfl, rfl, rfl⟩, hl'.push _⟩, fun b hb => ?_, (fun _ _ => intItems_at), fun h' tk t' hk => ?_⟩
  · show b < (s.heap.push _).objs.size
    rw [Heap.size_push]
    rcases List.mem_cons.mp hb with rfl | hb
    · exact Nat.lt_succ_self _
    · rcases List.mem_cons.mp hb with rfl | hb
      · exact Nat.lt_succ_of_lt hlt
      · cases hb
  · refine ⟨.int _, H, I.kept fun b o eo => hk b o (fun hmem => ?_) (Heap.get?_push_of_some _ eo), ?_, q⟩
    · rcases List.mem_cons.mp hmem with e1 | hmem
      · exact absurd (e1 ▸ Heap.lt_size eo) (Nat.lt_irrefl _)
      · cases hmem
    · refine ⟨t', ?_⟩
      have : (intItems xs).size = xs.size := by simp [intItems]
      rw [this, preSum_eq, List.take_of_length_le (by simp), hn]
/-- a op z, a an instance of C with its own operator, z a text -/
def rOwnS (C : Addr) (sp : Sp) : R2 := fun x y H Q => ∃ (a dx : Addr) (fs : List (Str × V)) (z : Str), x = .ref a ∧ y = .str z ∧ H a = some (.ins C dx fs) ∧ sp [x, y] H Q E0
structure StrR (K : PySem.W.Frag) (C : Addr) (op : Operator) : Prop where
  r : PySem.W.findIn K (.ref C) (dunderR op.info.2) = some none
  h1 : PySem.W.findIn K (.type "str") (PySem.dunder op.info.2) = some none
  h2 : PySem.W.findIn K (.type "str") (dunderR op.info.2) = some none
  sub : PySem.W.subIn K (.type "str") (.ref C) = some false
theorem op_ownS {X : Cx} {k : Nat} {sp : Sp} {C : Addr} {op : Operator} (c : CalleeO X.prog X.w X.K X.mg X.base C (PySem.dunder op.info.2) k sp) (hs : PySem.W.selfFirst X.K C = true) (g : StrR X.K C op) (hr : Room k X.A) : OpR X (binaryOp op) (rOwnS C sp) := by
  intro pins s σ H x y v u Q I rx ry hq
  obtain ⟨a, dx, fs, z, rfl, rfl, ha, q⟩ := hq
  obtain ⟨f, fd, ps, h1, h2, h5, h3, h4⟩ := c.ex
  obtain rfl : v = Value.ref a := rx
  obtain ⟨t, rfl⟩ : ∃ t, u = Value.str z t := ry
  obtain ⟨mA, J, _⟩ := ins_get I.hok ha
  obtain ⟨od, J, _⟩ := J.look
  obtain ⟨m, hF⟩ := I.fr
  refine PySem.W.ksp_binT hF I.ok.mod.kin J (T := "str") rfl hs h1 h2 g.r (.inl rfl) g.h1 g.h2 g.sub ?_
  exact wpAny_mono (run_own h4 h3 hr I (us := [.ref a, .str z t]) (vs := [.ref a, .str z]) (.cons rfl (.cons ⟨t, rfl⟩ .nil)) q) (fun _ _ z => cmpBack_of z) fun _ _ z => z
end Bk
set_option Elab.async false
set_option maxRecDepth 100000
set_option maxHeartbeats 1000000
namespace Bk
open PySem PySem.Spec PyProof.Rows L2
/-! ### zip and enumerate over lists and tuples in any mix; a source is a list (true) or a tuple (false) -/
def Sq (K : PySem.W.Frag) (k : Bool) (H : Hp) (a : Addr) (xs : List V) : Prop := if k = true then SqL K H a xs else SqT K H a xs
def ItAt (k : Bool) (h : Heap) (it a : Addr) (i : Nat) : Prop := if k = true then h.IsListIter it a i else h.IsTupleIter it a i
def SrcAt (k : Bool) (h : Heap) (a : Addr) (its : Array Value) : Prop := if k = true then h.IsList a its else h.IsTuple a its
def itObj (k : Bool) (a : Addr) : Obj := if k = true then { cls := .type "list_iterator", data := .fields #[.ref a, .int 0 0] } else { cls := .type "tuple_iterator", data := .fields #[.ref a, .int 0 0] }
theorem draws_k {prog : Program} {w : World} {A : Around} (k : Bool) (hh : A.handled = none) (it a : Addr) (hne : a ≠ it) (items : Array Value) :
    Draws prog w A it [it, a] items.size (fun i v => items[i]? = some v) (fun i h => ItAt k h it a i ∧ SrcAt k h a items) := by
  cases k with
  | true => exact Draws.list hh it a hne items
  | false => exact Draws.tuple hh it a hne items
theorem begins_k (k : Bool) (a : Addr) (items : Array Value) : Begins (.ref a) (itObj k a) fun h => SrcAt k h a items := by
  cases k with
  | true => exact begins_list a items
  | false => exact begins_tuple a items
theorem itAt_keep {k : Bool} {h h' : Heap} {it a : Addr} {i : Nat} (x : ItAt k h it a i) (hk : ∀ o, h.get? it = some o → h'.get? it = some o) : ItAt k h' it a i := by
  cases k with
  | true => exact Heap.IsListIter.at x hk
  | false => exact Heap.IsTupleIter.at x hk
theorem itAt_obj {k : Bool} {h : Heap} {it a : Addr} {i : Nat} (x : ItAt k h it a i) : ∃ o, h.get? it = some o ∧ ∀ v, o.data ≠ .cell v := by
  cases k with
  | true =>
    obtain ⟨o, e, _, d⟩ := (show h.IsListIter it a i from x)
    exact ⟨o, e, fun v q => by rw [d] at q; cases q⟩
  | false =>
    obtain ⟨o, e, _, d⟩ := (show h.IsTupleIter it a i from x)
    exact ⟨o, e, fun v q => by rw [d] at q; cases q⟩
theorem itAt_new {k : Bool} {h : Heap} {it a : Addr} (x : h.get? it = some (itObj k a)) : ItAt k h it a 0 := by
  cases k with
  | true => exact ⟨_, x, rfl, rfl⟩
  | false => exact ⟨_, x, rfl, rfl⟩
theorem sq_src {X : Cx} {pins : List (Addr × Obj)} {σ : L2.St} {H : Hp} {s : Shared} {k : Bool} {a : Addr} {xs : List V} (I : Inv X pins σ H s) (h : Sq X.K k H a xs) :
    ∃ its : List Value, Vals xs its ∧ SrcAt k s.heap a its.toArray ∧ a < s.heap.objs.size := by
  cases k with
  | true =>
    obtain ⟨its, rv, p, _⟩ := I.list (show SqL X.K H a xs from h)
    exact ⟨its, rv, p.isList, p.lt⟩
  | false =>
    obtain ⟨its, rv, p, _⟩ := I.tuple (show SqT X.K H a xs from h)
    obtain ⟨o1, ho1, _⟩ := id p
    exact ⟨its, rv, p, Heap.lt_size ho1⟩
theorem sq_inj {X : Cx} {pins : List (Addr × Obj)} {σ : L2.St} {H : Hp} {s : Shared} {k : Bool} {a : Addr} {xs ys : List V} (I : Inv X pins σ H s) (h : Sq X.K k H a xs) (h' : Sq X.K k H a ys) : xs = ys := by
  cases k with
  | true => exact I.list_inj h h'
  | false => exact I.tuple_inj h h'
/-- the two sources as they stand at each turn, the items in new pairs -/
def ItzM (K : PySem.W.Frag) (k1 k2 : Bool) (a b : Addr) : It :=
  ⟨fun i H => ∃ (xs ys : List V) (x y : V), Sq K k1 H a xs ∧ Sq K k2 H b ys ∧ xs[i]? = some x ∧ ys[i]? = some y,
    fun i H v H' => ∃ T x y, v = .ref T ∧ H T = none ∧ H' = upd H T (.tup [x, y]) ∧ (∀ xs, Sq K k1 H a xs → xs[i]? = some x) ∧ ∀ ys, Sq K k2 H b ys → ys[i]? = some y,
    fun i H => ∃ xs ys : List V, Sq K k1 H a xs ∧ Sq K k2 H b ys ∧ i = min xs.length ys.length⟩
def ItnM (K : PySem.W.Frag) (k1 : Bool) (a : Addr) : It :=
  ⟨fun i H => ∃ (xs : List V) (x : V), Sq K k1 H a xs ∧ xs[i]? = some x,
    fun i H v H' => ∃ T x, v = .ref T ∧ H T = none ∧ H' = upd H T (.tup [.int (i : Nat), x]) ∧ ∀ xs, Sq K k1 H a xs → xs[i]? = some x,
    fun i H => ∃ xs : List V, Sq K k1 H a xs ∧ i = xs.length⟩
theorem sub4 {N c : Nat} (h : c ∈ [N + 4, N + 3, N, N + 1]) : c ∈ [N + 4, N + 2, N + 3, N, N + 1] := by
  simp only [List.mem_cons, List.not_mem_nil, or_false] at h ⊢
  rcases h with h | h | h | h
  · exact .inl h
  · exact .inr (.inr (.inl h))
  · exact .inr (.inr (.inr (.inl h)))
  · exact .inr (.inr (.inr (.inr h)))
theorem turn_zipM {P : Program} {w : World} {K : PySem.W.Frag} {elts : List Expr} {kk : Nat} {tpos : Pos} {k1 k2 : Bool} {a b N : Addr} (ha : a < N) (hb : b < N) :
    Turn P w K (.Tuple elts kk tpos) (ItzM K k1 k2 a b) [N + 4, N + 2, N + 3, N, N + 1] (N + 4)
      (fun i h => IsZip h (N + 4) (N + 2) (N + 3) .none ∧ IsTupOf2 h (N + 2) (.ref N) (.ref (N + 1)) ∧ (∃ x y, IsTupOf2 h (N + 3) x y) ∧ ItAt k1 h N a i ∧ ItAt k2 h (N + 1) b i) where
  mem := by simp
  obj := fun i h st c hc => by
    obtain ⟨hz, hTI, ⟨x, y, hTO⟩, h1, h2⟩ := st
    have e' : c = N + 4 ∨ c = N + 2 ∨ c = N + 3 ∨ c = N ∨ c = N + 1 := by simpa using hc
    rcases e' with q | q | q | q | q
    · rw [q]; exact ⟨_, hz, fun v q => nomatch q⟩
    · rw [q]; exact ⟨_, hTI, fun v q => nomatch q⟩
    · rw [q]; exact ⟨_, hTO, fun v q => nomatch q⟩
    · rw [q]; exact itAt_obj h1
    · rw [q]; exact itAt_obj h2
  keep := fun i h h' st k => by
    obtain ⟨hz, hTI, ⟨x, y, hTO⟩, h1, h2⟩ := st
    exact ⟨k _ (by simp) _ hz, k _ (by simp) _ hTI, ⟨x, y, k _ (by simp) _ hTO⟩, itAt_keep h1 fun o q => k N (by simp) o q, itAt_keep h2 fun o q => k _ (by simp) o q⟩
  item := by
    intro X hP hw hK hc i pins s σ H E I hf st hg
    subst hP hw hK
    obtain ⟨hz, hTI, hTO, h1, h2⟩ := st
    obtain ⟨xs, ys, x, y, hqx, hqy, hx, hy⟩ := hg
    obtain ⟨its, rv, p, _⟩ := sq_src I hqx
    obtain ⟨its2, rv2, p2, _⟩ := sq_src I hqy
    obtain ⟨u, hu, ru⟩ := rv.get hx
    obtain ⟨u2, hu2, ru2⟩ := rv2.get hy
    have hh : X.A.in1.handled = none := I.ok.hd hc
    have W := WalksT.zipD2 (prog := X.prog) (w := X.w) (A := X.A) (zip_sep2 (N := N) (fp1 := [a]) (fp2 := [b]) (by simpa using ha) (by simpa using hb))
      (draws_k k1 hh N a (Nat.ne_of_lt ha) its.toArray) (draws_k k2 hh (N + 1) b (Nat.ne_of_lt (Nat.lt_succ_of_lt hb)) its2.toArray)
    have hi : i < min its.toArray.size its2.toArray.size := by
      have q1 := (List.getElem?_eq_some_iff.mp hu).1
      have q2 := (List.getElem?_eq_some_iff.mp hu2).1
      simp only [List.size_toArray]
      omega
    refine W.item i s _ E hi ⟨hz, hTI, hTO, ⟨h1, p⟩, ⟨h2, p2⟩⟩ fun T vals h' tk hv hT hTup hmid hk => ?_
    obtain ⟨x1, x2, e1, e2, rfl⟩ := hv
    have e1' : x1 = u := by simpa [hu] using e1.symm
    have e2' : x2 = u2 := by simpa [hu2] using e2.symm
    subst e1' e2'
    refine ⟨_, rfl, W.go elts kk tpos i T { s with heap := h', toks := tk } _ E hmid fun h'' st' hk' => ?_⟩
    have hTn := W.apart i T h' hmid
    obtain ⟨o, ho, hoc, hod⟩ := hTup
    have ho2 := hk' T o hTn ho
    have hw : ∀ c o, c ∉ [N + 4, N + 2, N + 3, N, N + 1] → s.heap.get? c = some o → h''.get? c = some o := fun c o hb q => by
      have hb' : c ∉ [N + 4, N + 3, N, N + 1] := fun z => hb (sub4 z)
      exact hk' c o hb' (hk c o hb' q)
    have new : ObjOk X.prog X.w (upd H T (.tup [x, y])) h'' T (.tup [x, y]) := ⟨by show 2 ≤ sizeLine; decide, [x1, x2], .cons ru (.cons ru2 .nil), ⟨o, ho2, hoc, hod⟩⟩
    have I1 : Inv X pins σ (upd H T (.tup [x, y])) { s with heap := h'', toks := tk } := I.turnedNew (t' := tk) (ch := [N + 4, N + 2, N + 3, N, N + 1]) hw hf hT new
    obtain ⟨z1, z2, z3, ⟨z4, _⟩, ⟨z5, _⟩⟩ := st'
    refine ⟨.ref T, _, I1, rfl, ⟨T, x, y, rfl, I.hok.fresh hT, rfl, fun l hl => by rw [sq_inj I hl hqx]; exact hx, fun l hl => by rw [sq_inj I hl hqy]; exact hy⟩, ⟨z1, z2, z3, z4, z5⟩, fun c hcm => ?_⟩
    have hlt : c < s.heap.objs.size := by
      have e' : c = N + 4 ∨ c = N + 2 ∨ c = N + 3 ∨ c = N ∨ c = N + 1 := by simpa using hcm
      obtain ⟨x0, y0, hTO⟩ := hTO
      rcases e' with q | q | q | q | q
      · rw [q]; exact Heap.lt_size hz
      · rw [q]; exact Heap.lt_size hTI
      · rw [q]; exact Heap.lt_size hTO
      · rw [q]; obtain ⟨_, e1, _⟩ := itAt_obj h1; exact Heap.lt_size e1
      · rw [q]; obtain ⟨_, e2, _⟩ := itAt_obj h2; exact Heap.lt_size e2
    rw [upd_ne (Nat.ne_of_lt (Nat.lt_of_lt_of_le hlt hT))]
    exact (hf c hcm).1
  done := by
    intro X hP hw hK hc i pins s σ H E I hf st hg
    subst hP hw hK
    obtain ⟨hz, hTI, hTO, h1, h2⟩ := st
    obtain ⟨xs, ys, hqx, hqy, hend⟩ := hg
    obtain ⟨its, rv, p, _⟩ := sq_src I hqx
    obtain ⟨its2, rv2, p2, _⟩ := sq_src I hqy
    have hh : X.A.in1.handled = none := I.ok.hd hc
    have W := WalksT.zipD2 (prog := X.prog) (w := X.w) (A := X.A) (zip_sep2 (N := N) (fp1 := [a]) (fp2 := [b]) (by simpa using ha) (by simpa using hb))
      (draws_k k1 hh N a (Nat.ne_of_lt ha) its.toArray) (draws_k k2 hh (N + 1) b (Nat.ne_of_lt (Nat.lt_succ_of_lt hb)) its2.toArray)
    have hi : i = min its.toArray.size its2.toArray.size := by
      rw [hend, rv.length, rv2.length]
      simp only [List.size_toArray]
    subst hi
    refine W.done s _ E ⟨hz, hTI, hTO, ⟨h1, p⟩, ⟨h2, p2⟩⟩ fun h' tk hk => ⟨rfl, I.turnedL (t' := tk) (ch := [N + 4, N + 2, N + 3, N, N + 1]) (fun c o hb q => ?_) hf⟩
    have hb' : c ∉ [N + 4, N + 3, N, N + 1] := fun z => hb (sub4 z)
    exact hk c o hb' q
  self := fun A i s Q E st h => wpAny_pyIter_zip st.1 h
theorem turn_enumM {P : Program} {w : World} {K : PySem.W.Frag} {elts : List Expr} {kk : Nat} {tpos : Pos} {k1 : Bool} {a N : Addr} (ha : a < N) :
    Turn P w K (.Tuple elts kk tpos) (ItnM K k1 a) [N + 1, N] (N + 1) (fun i h => (∃ old, IsEnum h (N + 1) N ((0 : Int) + (i : Int)) old) ∧ ItAt k1 h N a i) where
  mem := by simp
  obj := fun i h st c hc => by
    obtain ⟨⟨old, he⟩, h1⟩ := st
    have e' : c = N + 1 ∨ c = N := by simpa using hc
    rcases e' with q | q
    · rw [q]; exact ⟨_, he, fun v q => nomatch q⟩
    · rw [q]; exact itAt_obj h1
  keep := fun i h h' st k => by
    obtain ⟨⟨old, he⟩, h1⟩ := st
    exact ⟨⟨old, k _ (by simp) _ he⟩, itAt_keep h1 fun o q => k N (by simp) o q⟩
  item := by
    intro X hP hw hK hc i pins s σ H E I hf st hg
    subst hP hw hK
    obtain ⟨he, h1⟩ := st
    obtain ⟨xs, x, hqx, hx⟩ := hg
    obtain ⟨its, rv, p, _⟩ := sq_src I hqx
    obtain ⟨u, hu, ru⟩ := rv.get hx
    have hh : X.A.in1.handled = none := I.ok.hd hc
    have hne : N + 1 ≠ N := Nat.succ_ne_self N
    have hnf : N + 1 ∉ [N, a] := by
      intro z
      have e' : N + 1 = N ∨ N + 1 = a := by simpa using z
      rcases e' with q | q
      · exact hne q
      · rw [← q] at ha; exact absurd ha (Nat.not_lt_of_le (Nat.le_succ N))
    have W := WalksT.enumFrom (prog := X.prog) (w := X.w) (A := X.A) 0 (draws_k k1 hh N a (Nat.ne_of_lt ha) its.toArray) (N + 1) hne hnf (by simp)
    have hi : i < its.toArray.size := by
      have q1 := (List.getElem?_eq_some_iff.mp hu).1
      simp only [List.size_toArray]
      omega
    refine W.item i s _ E hi ⟨he, h1, p⟩ fun T vals h' tk hv hT hTup hmid hk => ?_
    obtain ⟨t0, x1, e1, rfl⟩ := hv
    have e1' : x1 = u := by simpa [hu] using e1.symm
    subst e1'
    refine ⟨_, rfl, W.go elts kk tpos i T { s with heap := h', toks := tk } _ E hmid fun h'' st' hk' => ?_⟩
    have hTn := W.apart i T h' hmid
    obtain ⟨o, ho, hoc, hod⟩ := hTup
    have ho2 := hk' T o hTn ho
    have hw : ∀ c o, c ∉ [N + 1, N] → s.heap.get? c = some o → h''.get? c = some o := fun c o hb q => hk' c o hb (hk c o hb q)
    have new : ObjOk X.prog X.w (upd H T (.tup [.int (i : Nat), x])) h'' T (.tup [.int (i : Nat), x]) := ⟨by show 2 ≤ sizeLine; decide, [.int ((0 : Int) + (i : Int)) t0, x1], .cons ⟨t0, by rw [Int.zero_add]⟩ (.cons ru .nil), ⟨o, ho2, hoc, hod⟩⟩
    have I1 : Inv X pins σ (upd H T (.tup [.int (i : Nat), x])) { s with heap := h'', toks := tk } := I.turnedNew (t' := tk) (ch := [N + 1, N]) hw hf hT new
    obtain ⟨z1, z4, _⟩ := st'
    refine ⟨.ref T, _, I1, rfl, ⟨T, x, rfl, I.hok.fresh hT, rfl, fun l hl => by rw [sq_inj I hl hqx]; exact hx⟩, ⟨z1, z4⟩, fun c hcm => ?_⟩
    have hlt : c < s.heap.objs.size := by
      have e' : c = N + 1 ∨ c = N := by simpa using hcm
      obtain ⟨old, he⟩ := he
      rcases e' with q | q
      · rw [q]; exact Heap.lt_size he
      · rw [q]; obtain ⟨_, e1, _⟩ := itAt_obj h1; exact Heap.lt_size e1
    rw [upd_ne (Nat.ne_of_lt (Nat.lt_of_lt_of_le hlt hT))]
    exact (hf c hcm).1
  done := by
    intro X hP hw hK hc i pins s σ H E I hf st hg
    subst hP hw hK
    obtain ⟨he, h1⟩ := st
    obtain ⟨xs, hqx, hend⟩ := hg
    obtain ⟨its, rv, p, _⟩ := sq_src I hqx
    have hh : X.A.in1.handled = none := I.ok.hd hc
    have hne : N + 1 ≠ N := Nat.succ_ne_self N
    have hnf : N + 1 ∉ [N, a] := by
      intro z
      have e' : N + 1 = N ∨ N + 1 = a := by simpa using z
      rcases e' with q | q
      · exact hne q
      · rw [← q] at ha; exact absurd ha (Nat.not_lt_of_le (Nat.le_succ N))
    have W := WalksT.enumFrom (prog := X.prog) (w := X.w) (A := X.A) 0 (draws_k k1 hh N a (Nat.ne_of_lt ha) its.toArray) (N + 1) hne hnf (by simp)
    have hi : i = its.toArray.size := by
      rw [hend, rv.length]
      simp only [List.size_toArray]
    subst hi
    exact W.done s _ E ⟨he, h1, p⟩ fun h' tk hk => ⟨rfl, I.turnedL (t' := tk) (ch := [N + 1, N]) hk hf⟩
  self := fun A i s Q E st h => by
    obtain ⟨⟨old, he⟩, _⟩ := st
    exact wpAny_pyIter_enum he h

def iZipM (K : PySem.W.Frag) (k1 k2 : Bool) (ta : TA) : TI := fun σ H R => ta σ H fun vs H1 => ∃ a b xs ys, vs = [.ref a, .ref b] ∧ Sq K k1 H1 a xs ∧ Sq K k2 H1 b ys ∧ R (ItzM K k1 k2 a b) H1
theorem pi_zipM {X : Cx} (k1 k2 : Bool) {e e2 : Expr} {ta : TA} {p pos tpos : Pos} {elts : List Expr} {kk : Nat} (hg : Gl X "zip") (hm : X.mg "zip" = none) (ha : PA X [e, e2] ta)
    (hs : starEach [e, e2] X.env = (false, eval e X.env) :: starEach [e2] X.env := by rfl) (hpl : (backTo pos (starEach [e2] X.env)).any (·.1) = false := by rfl) :
    PI X (.Tuple elts kk tpos) (.Call (.Name "zip" p) [e, e2] [] pos) (iZipM X.K k1 k2 ta) := by
  refine ⟨fun pins s σ H R I h => ?_⟩
  refine Call_ (ld_blt I hg hm PyProof.Rows.boot_zip (PyProof.Rows.callWith_type1 (thn (ha.run pos pins s σ H _ I h) fun us s1 ⟨vs, H1, I1, r1, q1⟩ => ?_) hs hpl))
  obtain ⟨a, b, xs, ys, ex, hqx, hqy, q⟩ := q1
  subst ex
  cases r1 with
  | cons r rr =>
    cases rr with
    | cons r' rr =>
      cases rr
      cases r
      cases r'
      obtain ⟨its, rv, p1, la⟩ := sq_src I1 hqx
      obtain ⟨its2, rv2, p2, lb⟩ := sq_src I1 hqy
      refine zip_begins2 (begins_k k1 a its.toArray) (begins_k k2 b its2.toArray) p1 p2 fun h' hz hTI hTO h1 h2 hsz hk => wpAny_pyIter_zip hz ?_
      have I2 : Inv X pins σ H1 { s1 with heap := h' } := I1.kept (t' := s1.toks) hk
      refine ⟨s1.heap.objs.size + 4, [s1.heap.objs.size + 4, s1.heap.objs.size + 2, s1.heap.objs.size + 3, s1.heap.objs.size, s1.heap.objs.size + 1], _, _, H1, rfl, I2, turn_zipM la lb, ⟨hz, hTI, ⟨_, _, hTO⟩, itAt_new h1, itAt_new h2⟩, fun c hcm => ?_, q⟩
      have e' : c = s1.heap.objs.size + 4 ∨ c = s1.heap.objs.size + 2 ∨ c = s1.heap.objs.size + 3 ∨ c = s1.heap.objs.size ∨ c = s1.heap.objs.size + 1 := by simpa using hcm
      have hle : s1.heap.objs.size ≤ c := by
        rcases e' with z | z | z | z | z
        · rw [z]; exact Nat.le_add_right _ _
        · rw [z]; exact Nat.le_add_right _ _
        · rw [z]; exact Nat.le_add_right _ _
        · rw [z]; exact Nat.le_refl _
        · rw [z]; exact Nat.le_add_right _ _
      exact I1.fpOk hle (I1.hok.fresh hle)
set_option maxHeartbeats 2000000 in
theorem meets_enumerate_newT (v : Addr) {o : Obj} {H : Heap → Prop} (B : Begins (.ref v) o H) :
    Meets (Builtin.«enumerate.__new__» ⟨[.type "enumerate", .ref v], []⟩) (fun _ R s => H s.heap ∧
      R (.ok (.ret (.ref (s.heap.push o).objs.size))) { s with heap := (s.heap.push o).push { cls := .type "enumerate", data := .fields #[.none, .bool false, .ref s.heap.objs.size, rawInt 0, .none, .none] } }) :=
  .of_wp fun prog w A R s h => by
    obtain ⟨hp, g, d, tk, os⟩ := s; obtain ⟨h1, h⟩ := h
    have hsub := sub_enumerate
    have q1 : ∀ {A' : Around} {E : Value → Shared → Prop} {Q : Value → Shared → Prop}, Q (.ref hp.objs.size) ⟨hp.push o, g, d, tk, os⟩ → wpAny (model prog w) A' (pyIter (.ref v)) Q E ⟨hp, g, d, tk, os⟩ :=
      fun q => B.iter prog w _ _ ⟨hp, g, d, tk, os⟩ _ h1 q
    wp_walk using q1
    refine wpAny_stack_any fun st => wpAny_pure ?_
    split
    · rename_i c _ _ _ _ _
      cases (c == Value.type "enumerate")
      · wp_walk using q1
        exact ⟨_, rfl, h⟩
      · wp_walk using q1
        exact ⟨_, rfl, h⟩
    · wp_walk using q1
      exact ⟨_, rfl, h⟩
theorem enum_begins1 {prog : Program} {w : World} {A : Around} {E : Value → Shared → Prop} {s : Shared} {v : Addr} {o : Obj} {H : Heap → Prop} {Q : Value → Shared → Prop} (B : Begins (.ref v) o H) (h1 : H s.heap)
    (h : ∀ h', IsEnum h' (s.heap.objs.size + 1) s.heap.objs.size 0 .none → h'.get? s.heap.objs.size = some o → h'.objs.size = s.heap.objs.size + 2 →
      (∀ b o, s.heap.get? b = some o → h'.get? b = some o) → Q (.ref (s.heap.objs.size + 1)) { s with heap := h' }) :
    wpAny (model prog w) A (call (.type "enumerate") [.ref v]) Q E s := by
  refine callType_new F.called_enumerate (by decide) (F.typeCall_enumerate_1 _) (F.newCall_enumerate_1 _) (fun obj => F.args_object_init_2 obj _) F.entry_enumerate_new
    (meets_enumerate_newT v B) ⟨h1, ?_⟩
  have hz : (s.heap.push o).objs.size = s.heap.objs.size + 1 := Heap.size_push ..
  show _ ∧ _
  rw [hz]
  have he : IsEnum ((s.heap.push o).push { cls := .type "enumerate", data := .fields #[.none, .bool false, .ref s.heap.objs.size, rawInt 0, .none, .none] }) (s.heap.objs.size + 1) s.heap.objs.size 0 .none := by
    have := Heap.get?_push_size (s.heap.push o) (o := { cls := .type "enumerate", data := .fields #[.none, .bool false, .ref s.heap.objs.size, rawInt 0, .none, .none] }) rfl
    rw [hz] at this; exact this
  refine ⟨⟨_, he, rfl⟩, h _ he (Heap.get?_push_of_some _ (Heap.get?_push_size _ B.free)) (by rw [Heap.size_push, hz]) fun b o x => Heap.get?_push_of_some _ (Heap.get?_push_of_some _ x)⟩
def iEnumM (K : PySem.W.Frag) (k1 : Bool) (ta : TA) : TI := fun σ H R => ta σ H fun vs H1 => ∃ a xs, vs = [.ref a] ∧ Sq K k1 H1 a xs ∧ R (ItnM K k1 a) H1
theorem pi_enumM {X : Cx} (k1 : Bool) {e : Expr} {ta : TA} {p pos tpos : Pos} {elts : List Expr} {kk : Nat} (hg : Gl X "enumerate") (hm : X.mg "enumerate" = none) (ha : PA X [e] ta) (hs : starEach [e] X.env = [(false, eval e X.env)] := by rfl) :
    PI X (.Tuple elts kk tpos) (.Call (.Name "enumerate" p) [e] [] pos) (iEnumM X.K k1 ta) := by
  refine ⟨fun pins s σ H R I h => ?_⟩
  refine Call_ (ld_blt I hg hm boot_enumerate (PyProof.Rows.callWith_type1 (thn (ha.run pos pins s σ H _ I h) fun us s1 ⟨vs, H1, I1, r1, q1⟩ => ?_) hs rfl))
  obtain ⟨a, xs, ex, hq, q⟩ := q1
  subst ex
  cases r1 with
  | cons r rr =>
    cases rr
    cases r
    obtain ⟨its, rv, p', la⟩ := sq_src I1 hq
    refine enum_begins1 (begins_k k1 a its.toArray) p' fun h' he hit hsz hk => wpAny_pyIter_enum he ?_
    have I2 : Inv X pins σ H1 { s1 with heap := h' } := I1.kept (t' := s1.toks) hk
    refine ⟨s1.heap.objs.size + 1, [s1.heap.objs.size + 1, s1.heap.objs.size], _, _, H1, rfl, I2, turn_enumM la, ⟨⟨.none, he⟩, itAt_new hit⟩, fun b hb => ?_, q⟩
    have e' : b = s1.heap.objs.size + 1 ∨ b = s1.heap.objs.size := by simpa using hb
    have hle : s1.heap.objs.size ≤ b := by
      rcases e' with z | z
      · rw [z]; exact Nat.le_add_right _ _
      · rw [z]; exact Nat.le_refl _
    exact I1.fpOk hle (I1.hok.fresh hle)
end Bk
namespace Bk
open PySem PySem.Spec PyProof.Rows L2
theorem walk_zipM {K : PySem.W.Frag} {k1 k2 : Bool} {a b : Addr} {xs ys : List V} {n : Nat} (hn : n = min xs.length ys.length) :
    Walk (ItzM K k1 k2 a b) n (fun H => Sq K k1 H a xs ∧ Sq K k2 H b ys) (YPair (fun i => xs[i]?) (fun i => ys[i]?)) where
  goes := fun i H hi h => by
    have h1 : i < xs.length := by omega
    have h2 : i < ys.length := by omega
    exact ⟨xs, ys, xs[i], ys[i], h.1, h.2, List.getElem?_eq_getElem h1, List.getElem?_eq_getElem h2⟩
  stops := fun H h => ⟨xs, ys, h.1, h.2, hn⟩
  yields := fun i H x H' hi h y => by
    obtain ⟨T, x1, x2, e1, e2, e3, e4, e5⟩ := y
    exact ⟨T, x1, x2, e1, e2, e3, e4 _ h.1, e5 _ h.2⟩
theorem walk_enumM {K : PySem.W.Frag} {k1 : Bool} {a : Addr} {xs : List V} :
    Walk (ItnM K k1 a) xs.length (fun H => Sq K k1 H a xs) (YPair (fun i => some (.int (i : Nat))) (fun i => xs[i]?)) where
  goes := fun i H hi h => ⟨xs, xs[i], h, List.getElem?_eq_getElem hi⟩
  stops := fun H h => ⟨xs, h, rfl⟩
  yields := fun i H x H' hi h y => by
    obtain ⟨T, x1, e1, e2, e3, e4⟩ := y
    exact ⟨T, _, x1, e1, e2, e3, rfl, e4 _ h⟩
end Bk
set_option Elab.async false
set_option maxRecDepth 100000
set_option maxHeartbeats 1000000
namespace Bk
open PySem PySem.Spec PyProof.Rows L2
theorem same_new {H : Hp} {p : Addr} {o : HO} (h : H p = none) : Same H (upd H p o) := Same.new h
/-- a comprehension without tests whose element leaves what stands: its list is f of the turns -/
theorem lc_map {J : It} {n : Nat} {G : Hp → Prop} {Y : Nat → Hp → V → Hp → Prop} (w : Walk J n G Y) (hn : n ≤ 100000) {g : TG} {te : TE} {vs : List Nat} {σ : L2.St} {H : Hp} {D : Addr} {Qd : Hp → Prop} (f : Nat → V) (nD : H D = none)
    (hG : ∀ H', Same H H' → G H')
    (hs : ∀ i x H1 H2, i < n → Same H H1 → Y i H1 x H2 → Same H1 H2 ∧ ∀ R : VK, (∀ H3, Same H2 H3 → R (f i) H3) → g x (wipe σ vs) H2 fun σ2 H3 => wipe σ2 vs = wipe σ vs ∧ te σ2 H3 R)
    (hd : ∀ H', Same H H' → H' D = some (.lst ((List.range n).map f)) → Qd H') :
    ∃ W : Nat → Nat → Hp → Prop, (∃ m, W 0 m (upd H D (.lst []))) ∧ ∀ i m H, W i m H →
      (J.stop i H ∧ Qd H) ∨ (J.go i H ∧ ∃ Nx : Hp → Prop, (∀ H', Nx H' → ∃ m', m' < m ∧ W (i + 1) m' H') ∧ ∀ x H', J.yld i H x H' → g x (wipe σ vs) H' fun σ2 H2 => wipe σ2 vs = wipe σ vs ∧ tYes σ2 H2 fun b H3 =>
        if b = true then te σ2 H3 fun y H4 => ∃ acc, H4 D = some (.lst acc) ∧ acc.length < sizeLine ∧ Nx (upd H4 D (.lst (acc ++ [y]))) else Nx H3) := by
  refine lc_it w (fun i H' => Same H H' ∧ H' D = some (.lst ((List.range i).map f))) ⟨same_new nD, upd_same⟩ (fun i H' _ p => hG H' p.1) ?_ ?_
  · rintro i x H1 H2 hi ⟨s1, e1⟩ y
    obtain ⟨s2, k⟩ := hs i x H1 H2 hi s1 y
    have k2 := k (fun y H4 => ∃ acc, H4 D = some (.lst acc) ∧ acc.length < sizeLine ∧ (Same H (upd H4 D (.lst (acc ++ [y]))) ∧ (upd H4 D (.lst (acc ++ [y]))) D = some (.lst ((List.range (i + 1)).map f)))) fun H3 s3 =>
      ⟨_, s3 _ _ (s2 _ _ e1), by rw [List.length_map, List.length_range]; exact Nat.lt_of_lt_of_le (Nat.lt_of_lt_of_le hi hn) (by decide), Same.mut ((s1.trans s2).trans s3) nD, by rw [upd_same, List.range_succ, List.map_append]; rfl⟩
    exact k2
  · rintro H' ⟨s1, e1⟩
    exact hd H' s1 e1
theorem iteBF {b : Bool} {A B : Prop} (e : b = false) (h : B) : if b = true then A else B := by rw [e]; exact iteF h
theorem iteBT {b : Bool} {A B : Prop} (e : b = true) (h : A) : if b = true then A else B := by rw [e]; exact iteT h
theorem get_int {rs : List Int} {i : Nat} {x : V} (h : (rs.map V.int)[i]? = some x) : ∃ q, rs[i]? = some q ∧ x = V.int q := by
  rw [List.getElem?_map] at h
  cases e : rs[i]? with
  | none => rw [e] at h; cases h
  | some q => rw [e] at h; exact ⟨q, rfl, (Option.some.inj h).symm⟩
theorem vi_ne {a b : Int} (h : a ≠ b) : decide (V.int a = V.int b) = false := decide_eq_false fun e => h (V.int.inj e)
theorem vi_eq {a b : Int} (h : a = b) : decide (V.int a = V.int b) = true := decide_eq_true (by rw [h])
theorem cutV_to {xs : List V} {k : Nat} (h : k ≤ xs.length) : cutV xs none (some (k : Int)) = xs.take k := by
  show (xs.drop (HT.sIx xs.length 0 none)).take (HT.sIx xs.length xs.length (some (k : Int)) - HT.sIx xs.length 0 none) = xs.take k
  rw [HT.sIx_none, HT.sIx_nat, Nat.min_eq_left h, Nat.sub_zero, List.drop_zero]
theorem cutV_from {xs : List V} {k : Nat} (h : k ≤ xs.length) : cutV xs (some (k : Int)) none = xs.drop k := by
  show (xs.drop (HT.sIx xs.length 0 (some (k : Int)))).take (HT.sIx xs.length xs.length none - HT.sIx xs.length 0 (some (k : Int))) = xs.drop k
  rw [HT.sIx_none, HT.sIx_nat, Nat.min_eq_left h, List.take_of_length_le (by rw [List.length_drop]; exact Nat.le_refl _)]
theorem inV_str (z : Str) : ∀ zs : List Str, inV (.str z) (zs.map V.str) = decide (z ∈ zs)
  | [] => by simp [inV]
  | y :: ys => by
    have ih := inV_str z ys
    unfold inV at ih ⊢
    rw [List.map_cons, List.any_cons, ih]
    show ((y == z) || _) = _
    by_cases h : y = z
    · simp [h]
    · have : (y == z) = false := by simpa using h
      rw [this, Bool.false_or]
      apply decide_eq_decide.mpr
      simp [Ne.symm h]
theorem flat_strs (zs : List Str) : (zs.map V.str).all flatV = true := by
  rw [List.all_map]
  apply List.all_eq_true.mpr
  intro x _
  rfl
theorem nodup_take {zs : List Str} (h : zs.Nodup) {i : Nat} {z : Str} (e : zs[i]? = some z) : z ∉ zs.take i := by
  intro m
  obtain ⟨j, hj, e2⟩ := List.mem_iff_getElem.mp m
  rw [List.length_take] at hj
  rw [List.getElem_take] at e2
  have : zs[j]? = some z := by rw [List.getElem?_eq_getElem (by omega), e2]
  have := nd_ix h this e
  omega
theorem map_range_get {α : Type} {n : Nat} {f : Nat → α} {xs : List α} (hl : xs.length = n) (h : ∀ i (hi : i < xs.length), xs[i] = f i) : (List.range n).map f = xs := by
  subst hl
  apply List.ext_getElem
  · simp
  · intro i h1 h2
    simp [h i h2]
/-- the heap without one address -/
def rm (p : Addr) (H : Hp) : Hp := fun b => if b = p then none else H b
theorem rm_ne {p b : Addr} {H : Hp} (h : b ≠ p) : rm p H b = H b := by unfold rm; rw [if_neg h]
theorem rm_upd {p : Addr} {H : Hp} {o : HO} : rm p (L2.upd H p o) = rm p H := by
  funext b
  unfold rm
  by_cases h : b = p
  · rw [if_pos h, if_pos h]
  · rw [if_neg h, if_neg h, upd_ne h]
theorem rm_same {p : Addr} {H : Hp} : Same (rm p H) H := fun b o e => by
  unfold rm at e
  by_cases h : b = p
  · rw [if_pos h] at e; cases e
  · rw [if_neg h] at e; exact e
theorem rm_mono {p : Addr} {H H' : Hp} (s : Same H H') : Same (rm p H) (rm p H') := fun b o e => by
  unfold rm at e ⊢
  by_cases h : b = p
  · rw [if_pos h] at e; cases e
  · rw [if_neg h] at e ⊢; exact s b o e
open Classical in
/-- the heap without some addresses -/
noncomputable def rmS (S : Addr → Prop) (H : Hp) : Hp := fun b => if S b then none else H b
theorem rmS_ne {S : Addr → Prop} {b : Addr} {H : Hp} (h : ¬ S b) : rmS S H b = H b := by unfold rmS; rw [if_neg h]
theorem rmS_upd {S : Addr → Prop} {p : Addr} {H : Hp} {o : HO} (hp : S p) : rmS S (L2.upd H p o) = rmS S H := by
  funext b
  unfold rmS
  by_cases h : S b
  · rw [if_pos h, if_pos h]
  · rw [if_neg h, if_neg h, upd_ne (fun e => h (by rw [e]; exact hp))]
theorem rmS_some {S : Addr → Prop} {H : Hp} {b : Addr} {o : HO} (e : rmS S H b = some o) : ¬ S b ∧ H b = some o := by
  unfold rmS at e
  by_cases h : S b
  · rw [if_pos h] at e; cases e
  · rw [if_neg h] at e; exact ⟨h, e⟩
theorem rmS_same {S : Addr → Prop} {H : Hp} : Same (rmS S H) H := fun _ _ e => (rmS_some e).2
theorem rmS_mono {S : Addr → Prop} {H H' : Hp} (s : Same H H') : Same (rmS S H) (rmS S H') := fun b o e => by
  obtain ⟨h1, h2⟩ := rmS_some e
  rw [rmS_ne h1]
  exact s b o h2
theorem rmS_sub {S S' : Addr → Prop} {H : Hp} (h : ∀ b, S b → S' b) : Same (rmS S' H) (rmS S H) := fun b o e => by
  obtain ⟨h1, h2⟩ := rmS_some e
  rw [rmS_ne (fun q => h1 (h b q))]
  exact h2
theorem rmS_mut {S : Addr → Prop} {H1 H2 : Hp} {p : Addr} {o : HO} (e : Same (rmS S H1) (rmS S H2)) (n : H1 p = none) : Same (rmS S H1) (rmS S (L2.upd H2 p o)) := fun b u h => by
  obtain ⟨h1, h2⟩ := rmS_some h
  have := (rmS_some (e b u h)).2
  rw [rmS_ne h1, upd_ne (ne_of_none h2 n)]
  exact this
/-- what stood -/
def Old (H : Hp) (b : Addr) : Prop := ∃ o, H b = some o
theorem not_old {H : Hp} {b : Addr} (h : H b = none) : ¬ Old H b := fun ⟨o, e⟩ => by rw [h] at e; cases e
theorem rm_of_S {S : Addr → Prop} {p : Addr} {H : Hp} (hp : S p) : Same (rmS S H) (rm p H) := fun b o e => by
  obtain ⟨h1, h2⟩ := rmS_some e
  rw [rm_ne (fun q => h1 (by rw [q]; exact hp))]
  exact h2
def KeepL (L : List Addr) (H H' : Hp) : Prop := ∀ b o, H b = some o → b ∉ L → H' b = some o
theorem KeepL.seq {K : PySem.W.Frag} {L : List Addr} {H H' : Hp} {a : Addr} {xs : List V} (e : KeepL L H H') (n : a ∉ L) (h : SqL K H a xs) : SqL K H' a xs := by
  rcases h with (h | ⟨o, h⟩) | h
  · exact .inl (.inl (e _ _ h n))
  · exact .inl (.inr ⟨o, e _ _ h n⟩)
  · exact .inr h
theorem KeepL.tup {K : PySem.W.Frag} {L : List Addr} {H H' : Hp} {a : Addr} {xs : List V} (e : KeepL L H H') (n : ∀ b ∈ L, ∃ ys, H b = some (.lst ys)) (h : SqT K H a xs) : SqT K H' a xs := by
  rcases h with (h | ⟨o, h⟩) | h
  · exact .inl (.inl (e _ _ h fun m => by obtain ⟨ys, q⟩ := n _ m; rw [h] at q; cases q))
  · exact .inl (.inr ⟨o, e _ _ h fun m => by obtain ⟨ys, q⟩ := n _ m; rw [h] at q; cases q⟩)
  · exact .inr h
theorem map_range_getD {α : Type} {xs : List α} {d : α} {n : Nat} (h : xs.length = n) : (List.range n).map (fun i => xs.getD i d) = xs := by
  apply map_range_get h
  intro i hi
  simp [List.getD, hi]
/-- a dict comprehension over a walk -/
theorem dc_it {J : It} {n : Nat} {G : Hp → Prop} {Y : Nat → Hp → V → Hp → Prop} (w : Walk J n G Y) {g : TG} {tt : TT} {tk tv : TE} {vs : List Nat} {σ : L2.St} {H1 : Hp} {D : Addr} {Qd : Hp → Prop} (Pv : Nat → Hp → Prop) (h0 : Pv 0 (upd H1 D (.dK []))) (hG : ∀ i H, i ≤ n → Pv i H → G H)
    (hs : ∀ i x H H', i < n → Pv i H → Y i H x H' → g x (wipe σ vs) H' fun σ2 H2 => wipe σ2 vs = wipe σ vs ∧ tt σ2 H2 fun b H3 =>
      if b = true then tk σ2 H3 fun y H4 => tv σ2 H4 fun z H5 => ∃ kvs k, y = kV k ∧ H5 D = some (.dK kvs) ∧ kvs.length < sizeLine ∧ Pv (i + 1) (upd H5 D (.dK (putK kvs k z))) else Pv (i + 1) H3) (hd : ∀ H, Pv n H → Qd H) :
    ∃ W : Nat → Nat → Hp → Prop, (∃ m, W 0 m (upd H1 D (.dK []))) ∧ ∀ i m H, W i m H →
      (J.stop i H ∧ Qd H) ∨ (J.go i H ∧ ∃ Nx : Hp → Prop, (∀ H', Nx H' → ∃ m', m' < m ∧ W (i + 1) m' H') ∧ ∀ x H', J.yld i H x H' → g x (wipe σ vs) H' fun σ2 H2 => wipe σ2 vs = wipe σ vs ∧ tt σ2 H2 fun b H3 =>
        if b = true then tk σ2 H3 fun y H4 => tv σ2 H4 fun z H5 => ∃ kvs k, y = kV k ∧ H5 D = some (.dK kvs) ∧ kvs.length < sizeLine ∧ Nx (upd H5 D (.dK (putK kvs k z))) else Nx H3) := by
  refine ⟨fun i m H => m = n - i ∧ i ≤ n ∧ Pv i H, ⟨n, by simp, Nat.zero_le _, h0⟩, ?_⟩
  rintro i m H ⟨rfl, hi, p⟩
  have q := hG i H hi p
  by_cases hlt : i < n
  · refine .inr ⟨w.goes i H hlt q, Pv (i + 1), fun H' p' => ⟨n - (i + 1), by omega, rfl, hlt, p'⟩, fun x H' y => hs i x H H' hlt p (w.yields i H x H' hlt q y)⟩
  · have e : i = n := by omega
    subst e
    exact .inl ⟨w.stops H q, hd H p⟩
theorem putK_new {kvs : List (Key × V)} {k : Key} {v : V} (h : ∀ p ∈ kvs, p.1 ≠ k) : putK kvs k v = kvs ++ [(k, v)] := by
  unfold putK
  rw [if_neg]
  intro e
  obtain ⟨p, hp, q⟩ := List.any_eq_true.mp e
  exact h p hp (of_decide_eq_true q)
end Bk
set_option maxRecDepth 10000
namespace Bk
open PySem L2
/-- a barrel: name, capacity, roof, wishes -/
structure Bar where
  name : Str
  cap : Int
  roof : Int
  draws : List Int
theorem lt1 (a b : Nat) : decide ([a] < [b]) = decide (a < b) := by
  apply decide_eq_decide.mpr
  simp [List.cons_lt_cons_iff]
def chOk (c : Nat) : Bool := decide (97 ≤ c) && decide (c ≤ 122)
def nameOk (z : Str) : Bool := decide (1 ≤ z.length ∧ z.length ≤ 8) && z.cps.toList.all chOk
def barOk (n : Nat) (b : Bar) : Prop := nameOk b.name = true ∧ b.draws.length = n ∧ 0 ≤ b.cap ∧ b.cap ≤ 1000000000 ∧ 0 ≤ b.roof ∧ b.roof ≤ 100 ∧ ∀ d ∈ b.draws, 0 ≤ d ∧ d ≤ 1000000000
/-! ### what happens at one barrel: the plain functions -/
structure T4 where
  lv : Int
  dr : Int
  ms : Int
  ov : Int
def tickB (cap level water wish : Int) : T4 :=
  let x := level + water - cap
  let over := if x > 0 then x else 0
  let there := level + water - over
  let drawn := if wish < there then wish else there
  ⟨there - drawn, drawn, wish - drawn, over⟩
def rowsB (cap : Int) : Int → List (Int × Int) → List T4
  | _, [] => []
  | level, (water, wish) :: r => let t := tickB cap level water wish; t :: rowsB cap t.lv r
/-- the level behind the first i ticks -/
def lvB (cap : Int) (level : Int) (l : List (Int × Int)) : Int := (rowsB cap level l).foldl (fun _ t => t.lv) level
structure Pas where
  start : Int
  cap : Int
  rows : List T4
def Pas.after (p : Pas) : List Int := p.rows.map T4.lv
def Pas.drawn (p : Pas) : List Int := p.rows.map T4.dr
def Pas.missed (p : Pas) : List Int := p.rows.map T4.ms
def Pas.over (p : Pas) : List Int := p.rows.map T4.ov
def mkPas (start cap : Int) (inflow draws : List Int) : Pas := ⟨start, cap, rowsB cap start (inflow.zip draws)⟩
theorem rowsB_length (cap : Int) : ∀ (l : List (Int × Int)) (level : Int), (rowsB cap level l).length = l.length
  | [], _ => rfl
  | (w, q) :: r, level => by
    show (rowsB cap _ r).length + 1 = r.length + 1
    rw [rowsB_length cap r]
theorem rowsB_append (cap : Int) : ∀ (l m : List (Int × Int)) (level : Int), rowsB cap level (l ++ m) = rowsB cap level l ++ rowsB cap (lvB cap level l) m
  | [], _, _ => rfl
  | (w, q) :: r, m, level => by
    show _ :: rowsB cap _ (r ++ m) = _
    rw [rowsB_append cap r m]
    rfl
theorem lvB_append (cap : Int) (l m : List (Int × Int)) (level : Int) : lvB cap level (l ++ m) = lvB cap (lvB cap level l) m := by
  unfold lvB
  rw [rowsB_append, List.foldl_append]
  rfl
theorem rowsB_snoc (cap : Int) (l : List (Int × Int)) (w q level : Int) : rowsB cap level (l ++ [(w, q)]) = rowsB cap level l ++ [tickB cap (lvB cap level l) w q] := by
  rw [rowsB_append]
  rfl
theorem lvB_snoc (cap : Int) (l : List (Int × Int)) (w q level : Int) : lvB cap level (l ++ [(w, q)]) = (tickB cap (lvB cap level l) w q).lv := by
  rw [lvB_append]
  rfl
/-! ### a passage's gain, its highest water, how long it is alike -/
def maxOf : List Int → Int
  | [] => 0
  | [x] => x
  | x :: y :: r => if x ≤ maxOf (y :: r) then maxOf (y :: r) else x
theorem maxOf_ub : ∀ (l : List Int) (x : Int), x ∈ l → x ≤ maxOf l
  | [], x, h => by cases h
  | [y], x, h => by simp at h; subst h; exact Int.le_refl _
  | a :: b :: r, x, h => by
    have ih := maxOf_ub (b :: r)
    show x ≤ if a ≤ maxOf (b :: r) then maxOf (b :: r) else a
    rcases List.mem_cons.mp h with e | m
    · subst e
      split <;> omega
    · have := ih x m
      split <;> omega
theorem maxOf_mem : ∀ (l : List Int), l ≠ [] → maxOf l ∈ l
  | [], h => absurd rfl h
  | [y], _ => List.mem_singleton.mpr rfl
  | a :: b :: r, _ => by
    have ih := maxOf_mem (b :: r) (by simp)
    show (if a ≤ maxOf (b :: r) then maxOf (b :: r) else a) ∈ _
    split
    · exact List.mem_cons_of_mem _ ih
    · exact List.mem_cons_self
theorem maxOf_eq {l : List Int} {m : Int} (h1 : m ∈ l) (h2 : ∀ y ∈ l, y ≤ m) : m = maxOf l := by
  have a := maxOf_ub l m h1
  have b := h2 _ (maxOf_mem l (by intro e; rw [e] at h1; cases h1))
  omega
def Pas.last (p : Pas) : Int := p.after.getLastD p.start
def Pas.gain (p : Pas) : Int := p.last - p.start
def Pas.highest (p : Pas) : Int := maxOf (p.rows.map fun t => t.lv + t.dr)
def forever : Int := 1000000000000000001
def Pas.alike (p : Pas) : Int := if p.gain = 0 then forever else if p.missed.sum > 0 then 1 else 1 + (p.cap - p.highest).fdiv p.gain
def inflowOf (rain over : List Int) (b : Bar) : List Int := List.zipWith (fun f m => f * b.roof + m) rain over
/-- what pass_ticks returns, from an overflow above -/
def passFrom (rain : List Int) : List Int → List Bar → List Int → List Pas
  | over, b :: bs, l :: ls => let p := mkPas l b.cap (inflowOf rain over b) b.draws; p :: passFrom rain p.over bs ls
  | _, _, _ => []
def passTicks (rain : List Int) (bs : List Bar) (ls : List Int) : List Pas := passFrom rain (List.replicate rain.length 0) bs ls
def overFrom (rain : List Int) : List Int → List Bar → List Int → Nat → List Int
  | over, _, _, 0 => over
  | over, b :: bs, l :: ls, i + 1 => overFrom rain (mkPas l b.cap (inflowOf rain over b) b.draws).over bs ls i
  | _, _, _, _ + 1 => []
theorem overFrom_zero (rain over : List Int) (bs : List Bar) (ls : List Int) : overFrom rain over bs ls 0 = over := by
  cases bs <;> cases ls <;> simp [overFrom]
theorem overFrom_succ (rain over : List Int) (b : Bar) (l : Int) (bs : List Bar) (ls : List Int) (i : Nat) : overFrom rain over (b :: bs) (l :: ls) (i + 1) = overFrom rain (mkPas l b.cap (inflowOf rain over b) b.draws).over bs ls i := by
  rw [overFrom]
theorem passFrom_get (rain : List Int) : ∀ (i : Nat) (over : List Int) (bs : List Bar) (ls : List Int) (b : Bar) (l : Int), bs[i]? = some b → ls[i]? = some l →
    (passFrom rain over bs ls)[i]? = some (mkPas l b.cap (inflowOf rain (overFrom rain over bs ls i) b) b.draws) ∧ overFrom rain over bs ls (i + 1) = (mkPas l b.cap (inflowOf rain (overFrom rain over bs ls i) b) b.draws).over
  | 0, over, b :: bs, l :: ls, b', l', h1, h2 => by
    cases (Option.some.inj h1 : b = b')
    cases (Option.some.inj h2 : l = l')
    rw [overFrom_succ, overFrom_zero, overFrom_zero]
    exact ⟨rfl, rfl⟩
  | i + 1, over, b :: bs, l :: ls, b', l', h1, h2 => by
    rw [overFrom_succ, overFrom_succ]
    exact passFrom_get rain i _ bs ls b' l' h1 h2
  | _, _, [], _, _, _, h1, _ => by simp at h1
  | _, _, _ :: _, [], _, _, _, h2 => by simp at h2
theorem passFrom_length (rain : List Int) : ∀ (bs : List Bar) (over : List Int) (ls : List Int), (passFrom rain over bs ls).length = min bs.length ls.length
  | [], _, _ => by simp [passFrom]
  | _ :: _, _, [] => by simp [passFrom]
  | b :: bs, over, l :: ls => by
    show (passFrom rain _ bs ls).length + 1 = _
    rw [passFrom_length rain bs]
    simp only [List.length_cons]
    omega
theorem inflow_get {rain over : List Int} {b : Bar} {i : Nat} {f m : Int} (h1 : rain[i]? = some f) (h2 : over[i]? = some m) : (inflowOf rain over b).getD i 0 = f * b.roof + m := by
  unfold inflowOf
  simp [List.getD, List.getElem?_zipWith, h1, h2]
theorem inflow_length (rain over : List Int) (b : Bar) : (inflowOf rain over b).length = min rain.length over.length := by
  unfold inflowOf
  simp
end Bk
set_option maxRecDepth 10000
namespace Bk
/-! ### the columns: what happens at each barrel, tick by tick, without an end -/
def colF (cap s : Int) (fl ws : Nat → Int) : Nat → T4
  | 0 => tickB cap s (fl 0) (ws 0)
  | j + 1 => tickB cap (colF cap s fl ws j).lv (fl (j + 1)) (ws (j + 1))
/-- the level ahead of a tick -/
def bef (c : Nat → T4) : Nat → Int
  | 0 => 0
  | t + 1 => (c t).lv
def at0 (l : List Int) (i : Nat) : Int := l.getD i 0
def colB (rain : List Int) (b : Bar) (ov : Nat → Int) : Nat → T4 := colF b.cap 0 (fun t => at0 rain (t % rain.length) * b.roof + ov t) (fun t => at0 b.draws (t % rain.length))
def colsF (rain : List Int) : (Nat → Int) → List Bar → List (Nat → T4)
  | _, [] => []
  | ov, b :: bs => colB rain b ov :: colsF rain (fun t => (colB rain b ov t).ov) bs
/-- the columns of a row -/
def cols (rain : List Int) (bs : List Bar) : List (Nat → T4) := colsF rain (fun _ => 0) bs
theorem colF_at (cap : Int) (fl ws : Nat → Int) (t : Nat) : colF cap 0 fl ws t = tickB cap (bef (colF cap 0 fl ws) t) (fl t) (ws t) := by
  cases t <;> rfl
theorem colsF_length (rain : List Int) : ∀ (bs : List Bar) (ov : Nat → Int), (colsF rain ov bs).length = bs.length
  | [], _ => rfl
  | b :: bs, ov => by
    show (colsF rain _ bs).length + 1 = bs.length + 1
    rw [colsF_length rain bs]
/-- rows from a tick on are the column's -/
theorem rowsB_col (cap : Int) (fl ws : Nat → Int) : ∀ (k T : Nat), rowsB cap (bef (colF cap 0 fl ws) T) ((List.range k).map fun j => (fl (T + j), ws (T + j))) = (List.range k).map fun j => colF cap 0 fl ws (T + j)
  | 0, _ => rfl
  | k + 1, T => by
    rw [List.range_succ_eq_map, List.map_cons, List.map_cons, List.map_map, List.map_map]
    have ih := rowsB_col cap fl ws k (T + 1)
    have e1 : ((fun j => (fl (T + j), ws (T + j))) ∘ Nat.succ) = fun j => (fl (T + 1 + j), ws (T + 1 + j)) := by
      funext j
      show (fl (T + (j + 1)), ws (T + (j + 1))) = _
      rw [show T + (j + 1) = T + 1 + j by omega]
    have e2 : ((fun j => colF cap 0 fl ws (T + j)) ∘ Nat.succ) = fun j => colF cap 0 fl ws (T + 1 + j) := by
      funext j
      show colF cap 0 fl ws (T + (j + 1)) = _
      rw [show T + (j + 1) = T + 1 + j by omega]
    rw [e1, e2]
    show tickB cap (bef (colF cap 0 fl ws) T) (fl (T + 0)) (ws (T + 0)) :: rowsB cap _ _ = _
    have e3 : tickB cap (bef (colF cap 0 fl ws) T) (fl (T + 0)) (ws (T + 0)) = colF cap 0 fl ws T := (colF_at cap fl ws T).symm
    rw [e3]
    show colF cap 0 fl ws T :: rowsB cap (colF cap 0 fl ws T).lv _ = colF cap 0 fl ws (T + 0) :: _
    exact congrArg _ ih
theorem list_eq_range {α : Type} {l : List α} {k : Nat} (d : α) (h : l.length = k) : l = (List.range k).map fun j => l.getD j d := by
  apply List.ext_getElem
  · simp [h]
  · intro i h1 h2
    simp [List.getD, h1]
/-- a barrel's passage through ticks T, T + 1, .. (k of them, T a round's beginning) -/
theorem mkPas_col (rain : List Int) (b : Bar) (ov : Nat → Int) (over : List Int) (T k : Nat) (hk : k ≤ rain.length) (hd : b.draws.length = rain.length) (hT : T % rain.length = 0) (ho : over.length = k) (hov : ∀ j, j < k → over.getD j 0 = ov (T + j)) :
    mkPas (bef (colB rain b ov) T) b.cap (inflowOf (rain.take k) over b) b.draws = ⟨bef (colB rain b ov) T, b.cap, (List.range k).map fun j => colB rain b ov (T + j)⟩ := by
  unfold mkPas
  have hl : (inflowOf (rain.take k) over b).length = k := by rw [inflow_length, List.length_take, ho]; omega
  have e : (inflowOf (rain.take k) over b).zip b.draws = (List.range k).map fun j => (at0 rain ((T + j) % rain.length) * b.roof + ov (T + j), at0 b.draws ((T + j) % rain.length)) := by
    apply List.ext_getElem
    · rw [List.length_zip, hl, List.length_map, List.length_range, hd]
      omega
    · intro i h1 h2
      have hi : i < k := by simpa using h2
      have hm : (T + i) % rain.length = i := by
        rw [Nat.add_mod, hT, Nat.zero_add, Nat.mod_mod, Nat.mod_eq_of_lt (by omega)]
      rw [List.getElem_zip, List.getElem_map, List.getElem_range, hm]
      have q1 : (rain.take k)[i]? = some (at0 rain i) := by
        rw [List.getElem?_take_of_lt hi]
        unfold at0
        simp [List.getD, show i < rain.length by omega]
      have q2 : over[i]? = some (ov (T + i)) := by
        have := hov i hi
        rw [← this]
        simp [List.getD, show i < over.length by omega]
      have q3 := inflow_get (b := b) q1 q2
      have q4 : (inflowOf (rain.take k) over b)[i]'(by omega) = at0 rain i * b.roof + ov (T + i) := by
        rw [← q3]
        simp [List.getD, show i < (inflowOf (rain.take k) over b).length by omega]
      have q5 : b.draws[i]'(by omega) = at0 b.draws i := by
        unfold at0
        simp [List.getD, show i < b.draws.length by omega]
      rw [q4, q5]
  rw [e]
  have := rowsB_col b.cap (fun t => at0 rain (t % rain.length) * b.roof + ov t) (fun t => at0 b.draws (t % rain.length)) k T
  exact congrArg (Pas.mk _ _) this
/-- the row's passage: each barrel's -/
theorem passFrom_cols (rain : List Int) (T k : Nat) (hk : k ≤ rain.length) (hT : T % rain.length = 0) : ∀ (bs : List Bar) (ov : Nat → Int) (over : List Int), (∀ b ∈ bs, b.draws.length = rain.length) → over.length = k → (∀ j, j < k → over.getD j 0 = ov (T + j)) →
    passFrom (rain.take k) over bs ((colsF rain ov bs).map fun c => bef c T) = List.zipWith (fun c b => (⟨bef c T, b.cap, (List.range k).map fun j => c (T + j)⟩ : Pas)) (colsF rain ov bs) bs
  | [], _, _, _, _, _ => rfl
  | b :: bs, ov, over, hb, ho, hov => by
    have e := mkPas_col rain b ov over T k hk (hb b List.mem_cons_self) hT ho hov
    show mkPas (bef (colB rain b ov) T) b.cap (inflowOf (rain.take k) over b) b.draws :: passFrom (rain.take k) (mkPas (bef (colB rain b ov) T) b.cap (inflowOf (rain.take k) over b) b.draws).over bs _ = _
    rw [e]
    refine congrArg _ (passFrom_cols rain T k hk hT bs _ _ (fun b' m => hb b' (List.mem_cons_of_mem _ m)) ?_ ?_)
    · simp [Pas.over]
    · intro j hj
      simp [Pas.over, List.getD, hj]
/-- the levels at the beginning of a tick -/
def lvAt (rain : List Int) (bs : List Bar) (T : Nat) : List Int := (cols rain bs).map fun c => bef c T
def pasAt (rain : List Int) (bs : List Bar) (T k : Nat) : List Pas := List.zipWith (fun c b => (⟨bef c T, b.cap, (List.range k).map fun j => c (T + j)⟩ : Pas)) (cols rain bs) bs
theorem passTicks_cols {rain : List Int} {bs : List Bar} {T k : Nat} (hk : k ≤ rain.length) (hT : T % rain.length = 0) (hb : ∀ b ∈ bs, b.draws.length = rain.length) : passTicks (rain.take k) bs (lvAt rain bs T) = pasAt rain bs T k := by
  unfold passTicks lvAt pasAt cols
  refine passFrom_cols rain T k hk hT bs _ _ hb (by simp; omega) fun j hj => ?_
  rw [List.getD_eq_getElem?_getD, List.getElem?_replicate]
  split <;> rfl
theorem cols_length (rain : List Int) (bs : List Bar) : (cols rain bs).length = bs.length := colsF_length rain bs _
theorem lvAt_zero (rain : List Int) (bs : List Bar) : lvAt rain bs 0 = List.replicate bs.length 0 := by
  unfold lvAt
  apply List.ext_getElem
  · simp [cols_length]
  · intro i h1 h2
    simp [bef]
theorem last_round {c : Nat → T4} {T n : Nat} {cap : Int} (hn : 1 ≤ n) : bef c (T + n) = (⟨bef c T, cap, (List.range n).map fun j => c (T + j)⟩ : Pas).last := by
  obtain ⟨m, rfl⟩ : ∃ m, n = m + 1 := ⟨n - 1, by omega⟩
  show (c (T + m)).lv = _
  unfold Pas.last Pas.after
  simp only
  rw [List.range_succ, List.map_append, List.map_append]
  simp
/-- the levels behind a whole round -/
theorem lvAt_round {rain : List Int} {bs : List Bar} {T : Nat} (hn : 1 ≤ rain.length) : lvAt rain bs (T + rain.length) = (pasAt rain bs T rain.length).map Pas.last := by
  unfold lvAt pasAt
  apply List.ext_getElem
  · simp [cols_length]
  · intro i h1 h2
    rw [List.getElem_map, List.getElem_map, List.getElem_zipWith]
    exact last_round hn
/-! ### leaping over rounds -/
def shT (δ : Int) (t : T4) : T4 := ⟨t.lv + δ, t.dr, t.ms, t.ov⟩
def Pas.shift (δ : Int) (p : Pas) : Pas := ⟨p.start + δ, p.cap, p.rows.map (shT δ)⟩
theorem shT_zero : shT 0 = id := by
  funext t
  simp [shT]
theorem tick_shift {cap level water wish δ : Int} (hδ : 0 < δ) (h1 : (tickB cap level water wish).ms = 0) (h2 : (tickB cap level water wish).lv + (tickB cap level water wish).dr + δ ≤ cap) : tickB cap (level + δ) water wish = shT δ (tickB cap level water wish) := by
  by_cases a : level + water - cap > 0
  · exfalso
    unfold tickB at h2
    simp only [if_pos a] at h2
    split at h2 <;> omega
  · by_cases b : wish < level + water - 0
    · unfold tickB at h1 h2
      simp only [if_neg a, if_pos b] at h1 h2
      have a' : ¬ level + δ + water - cap > 0 := by omega
      have b' : wish < level + δ + water - 0 := by omega
      unfold tickB shT
      simp only [if_neg a, if_pos b, if_neg a', if_pos b']
      congr 1
      omega
    · unfold tickB at h1 h2
      simp only [if_neg a, if_neg b] at h1 h2
      have a' : ¬ level + δ + water - cap > 0 := by omega
      have b' : wish < level + δ + water - 0 := by omega
      unfold tickB shT
      simp only [if_neg a, if_neg b, if_neg a', if_pos b']
      congr 1 <;> omega
theorem rowsB_shift {cap δ : Int} (hδ : 0 < δ) : ∀ (l : List (Int × Int)) (s : Int), (∀ t ∈ rowsB cap s l, t.ms = 0 ∧ t.lv + t.dr + δ ≤ cap) → rowsB cap (s + δ) l = (rowsB cap s l).map (shT δ)
  | [], _, _ => rfl
  | (w, q) :: r, s, h => by
    have h0 := h (tickB cap s w q) List.mem_cons_self
    have e := tick_shift hδ h0.1 h0.2
    show tickB cap (s + δ) w q :: rowsB cap (tickB cap (s + δ) w q).lv r = shT δ (tickB cap s w q) :: (rowsB cap (tickB cap s w q).lv r).map (shT δ)
    rw [e]
    refine congrArg _ ?_
    exact rowsB_shift hδ r (tickB cap s w q).lv fun t m => h t (List.mem_cons_of_mem _ m)
theorem tick_ms (cap level water wish : Int) : 0 ≤ (tickB cap level water wish).ms := by
  unfold tickB
  simp only
  split <;> split <;> omega
theorem rowsB_ms (cap : Int) : ∀ (l : List (Int × Int)) (s : Int), ∀ t ∈ rowsB cap s l, 0 ≤ t.ms
  | [], _, t, h => by cases h
  | (w, q) :: r, s, t, h => by
    rcases List.mem_cons.mp h with e | m
    · rw [e]; exact tick_ms _ _ _ _
    · exact rowsB_ms cap r _ t m
theorem sum_nonpos_zero : ∀ (l : List Int), (∀ x ∈ l, 0 ≤ x) → l.sum ≤ 0 → ∀ x ∈ l, x = 0
  | [], _, _, x, h => by cases h
  | a :: r, h, hs, x, hx => by
    have ha := h a List.mem_cons_self
    have hr : ∀ x ∈ r, 0 ≤ x := fun x m => h x (List.mem_cons_of_mem _ m)
    have hp : 0 ≤ r.sum := by
      clear hs hx h ha
      induction r with
      | nil => exact Int.le_refl _
      | cons b r ih =>
        rw [List.sum_cons]
        have := ih fun x m => hr x (List.mem_cons_of_mem _ m)
        have := hr b List.mem_cons_self
        omega
    rw [List.sum_cons] at hs
    rcases List.mem_cons.mp hx with e | m
    · omega
    · exact sum_nonpos_zero r hr (by omega) x m
/-- within the rounds that a passage is alike it may be shifted -/
theorem alike_shift {p : Pas} {j : Nat} (hm : ∀ t ∈ p.rows, 0 ≤ t.ms) (hg : 0 ≤ p.gain) (hj : (j : Int) < p.alike) : (j : Int) * p.gain = 0 ∨ (0 < (j : Int) * p.gain ∧ ∀ t ∈ p.rows, t.ms = 0 ∧ t.lv + t.dr + (j : Int) * p.gain ≤ p.cap) := by
  by_cases h0 : p.gain = 0
  · left; rw [h0, Int.mul_zero]
  · by_cases hj0 : j = 0
    · left; rw [hj0]; simp
    · right
      unfold Pas.alike at hj
      rw [if_neg h0] at hj
      have hgp : 0 < p.gain := by omega
      have hjp : (0 : Int) < j := by omega
      by_cases hs : p.missed.sum > 0
      · rw [if_pos hs] at hj
        omega
      · rw [if_neg hs] at hj
        have h1 : (j : Int) ≤ (p.cap - p.highest).fdiv p.gain := by omega
        rw [Int.fdiv_eq_ediv_of_nonneg _ (by omega)] at h1
        have h2 : (j : Int) * p.gain ≤ p.cap - p.highest := (Int.le_ediv_iff_mul_le hgp).mp h1
        refine ⟨Int.mul_pos hjp hgp, fun t ht => ⟨?_, ?_⟩⟩
        · exact sum_nonpos_zero p.missed (fun x hx => by unfold Pas.missed at hx; obtain ⟨t, ht, rfl⟩ := List.mem_map.mp hx; exact hm t ht) (by omega) _ (List.mem_map.mpr ⟨t, ht, rfl⟩)
        · have := maxOf_ub (p.rows.map fun t => t.lv + t.dr) (t.lv + t.dr) (List.mem_map.mpr ⟨t, ht, rfl⟩)
          unfold Pas.highest at h2
          omega
theorem mkPas_shift {s cap δ : Int} {fl ws : List Int} (h : δ = 0 ∨ (0 < δ ∧ ∀ t ∈ (mkPas s cap fl ws).rows, t.ms = 0 ∧ t.lv + t.dr + δ ≤ cap)) : mkPas (s + δ) cap fl ws = (mkPas s cap fl ws).shift δ := by
  rcases h with rfl | ⟨h1, h2⟩
  · unfold mkPas Pas.shift
    rw [shT_zero]
    simp
  · unfold mkPas Pas.shift
    simp only
    rw [rowsB_shift h1 _ _ h2]
theorem shift_over (δ : Int) (p : Pas) : (p.shift δ).over = p.over := by
  unfold Pas.over Pas.shift
  simp only
  rw [List.map_map]
  rfl
theorem shift_drawn (δ : Int) (p : Pas) : (p.shift δ).drawn = p.drawn := by
  unfold Pas.drawn Pas.shift
  simp only
  rw [List.map_map]
  rfl
theorem shift_missed (δ : Int) (p : Pas) : (p.shift δ).missed = p.missed := by
  unfold Pas.missed Pas.shift
  simp only
  rw [List.map_map]
  rfl
theorem shift_last (δ : Int) (p : Pas) : (p.shift δ).last = p.last + δ := by
  unfold Pas.last Pas.after Pas.shift
  simp only
  rw [List.map_map, show (T4.lv ∘ shT δ) = (fun x => x + δ) ∘ T4.lv from rfl, ← List.map_map]
  rw [List.getLastD_eq_getLast?, List.getLastD_eq_getLast?, List.getLast?_map]
  cases (p.rows.map T4.lv).getLast? <;> rfl
theorem passFrom_shift (rain : List Int) (j : Nat) : ∀ (bs : List Bar) (over ls : List Int), bs.length = ls.length → (∀ p ∈ passFrom rain over bs ls, 0 ≤ p.gain ∧ (j : Int) < p.alike) →
    passFrom rain over bs ((passFrom rain over bs ls).map fun p => p.start + (j : Int) * p.gain) = (passFrom rain over bs ls).map fun p => p.shift ((j : Int) * p.gain)
  | [], _, _, _, _ => by simp [passFrom]
  | b :: bs, _, [], hl, _ => by simp at hl
  | b :: bs, over, l :: ls, hl, h => by
    have h0 := h (mkPas l b.cap (inflowOf rain over b) b.draws) List.mem_cons_self
    have e := mkPas_shift (alike_shift (p := mkPas l b.cap (inflowOf rain over b) b.draws) (j := j) (rowsB_ms _ _ _) h0.1 h0.2)
    show mkPas (l + (j : Int) * (mkPas l b.cap (inflowOf rain over b) b.draws).gain) b.cap (inflowOf rain over b) b.draws :: passFrom rain (mkPas (l + (j : Int) * (mkPas l b.cap (inflowOf rain over b) b.draws).gain) b.cap (inflowOf rain over b) b.draws).over bs _ = _
    rw [e, shift_over]
    refine congrArg _ ?_
    exact passFrom_shift rain j bs _ ls (by simpa using hl) fun p m => h p (List.mem_cons_of_mem _ m)
/-! ### from empty barrels on no round leaves less -/
theorem tick_mono {cap l l' w w' q : Int} (h1 : l ≤ l') (h2 : w ≤ w') : (tickB cap l w q).lv ≤ (tickB cap l' w' q).lv ∧ (tickB cap l w q).ov ≤ (tickB cap l' w' q).ov := by
  unfold tickB
  simp only
  constructor
  · split <;> split <;> split <;> split <;> omega
  · split <;> split <;> omega
theorem tick_lv (cap l w q : Int) : 0 ≤ (tickB cap l w q).lv := by
  unfold tickB
  simp only
  split <;> split <;> omega
theorem tick_le {cap l w q : Int} (hc : 0 ≤ cap) (hq : 0 ≤ q) : (tickB cap l w q).lv ≤ cap := by
  unfold tickB
  simp only
  split <;> split <;> omega
theorem tick_there (cap l w q : Int) : (tickB cap l w q).lv + (tickB cap l w q).dr ≤ cap := by
  unfold tickB
  simp only
  split <;> split <;> omega
theorem bef_col (rain : List Int) (b : Bar) (ov : Nat → Int) (t : Nat) : colB rain b ov t = tickB b.cap (bef (colB rain b ov) t) (at0 rain (t % rain.length) * b.roof + ov t) (at0 b.draws (t % rain.length)) := colF_at _ _ _ t
theorem bef_nonneg (rain : List Int) (b : Bar) (ov : Nat → Int) : ∀ t, 0 ≤ bef (colB rain b ov) t
  | 0 => Int.le_refl _
  | t + 1 => by
    show 0 ≤ (colB rain b ov t).lv
    rw [bef_col]
    exact tick_lv _ _ _ _
theorem at0_nonneg {l : List Int} (h : ∀ x ∈ l, 0 ≤ x) (i : Nat) : 0 ≤ at0 l i := by
  unfold at0
  rw [List.getD_eq_getElem?_getD]
  cases e : l[i]? with
  | none => exact Int.le_refl _
  | some x => exact h x (List.mem_of_getElem? e)
theorem bef_le {rain : List Int} {b : Bar} {ov : Nat → Int} (hc : 0 ≤ b.cap) (hd : ∀ d ∈ b.draws, 0 ≤ d) : ∀ t, bef (colB rain b ov) t ≤ b.cap
  | 0 => hc
  | t + 1 => by
    show (colB rain b ov t).lv ≤ b.cap
    rw [bef_col]
    exact tick_le hc (at0_nonneg hd _)
theorem colB_mono {rain : List Int} {b : Bar} {ov : Nat → Int} (hov : ∀ t, ov t ≤ ov (t + rain.length)) : ∀ t, bef (colB rain b ov) t ≤ bef (colB rain b ov) (t + rain.length) ∧ (colB rain b ov t).ov ≤ (colB rain b ov (t + rain.length)).ov := by
  have key : ∀ t, bef (colB rain b ov) t ≤ bef (colB rain b ov) (t + rain.length) := by
    intro t
    induction t with
    | zero => exact bef_nonneg _ _ _ _
    | succ t ih =>
      rw [show t + 1 + rain.length = t + rain.length + 1 by omega]
      show (colB rain b ov t).lv ≤ (colB rain b ov (t + rain.length)).lv
      rw [bef_col rain b ov t, bef_col rain b ov (t + rain.length), Nat.add_mod_right]
      exact (tick_mono ih (by have := hov t; omega)).1
  intro t
  refine ⟨key t, ?_⟩
  rw [bef_col rain b ov t, bef_col rain b ov (t + rain.length), Nat.add_mod_right]
  exact (tick_mono (key t) (by have := hov t; omega)).2
theorem colsF_mono (rain : List Int) : ∀ (bs : List Bar) (ov : Nat → Int), (∀ t, ov t ≤ ov (t + rain.length)) → ∀ c ∈ colsF rain ov bs, ∀ t, bef c t ≤ bef c (t + rain.length)
  | [], _, _, c, h => by cases h
  | b :: bs, ov, hov, c, h => by
    rcases List.mem_cons.mp h with e | m
    · rw [e]; exact fun t => (colB_mono hov t).1
    · exact colsF_mono rain bs _ (fun t => (colB_mono hov t).2) c m
theorem cols_mono (rain : List Int) (bs : List Bar) : ∀ c ∈ cols rain bs, ∀ t, bef c t ≤ bef c (t + rain.length) := colsF_mono rain bs _ fun _ => Int.le_refl _
/-- a column is some barrel's -/
theorem colsF_is (rain : List Int) : ∀ (bs : List Bar) (ov : Nat → Int) (i : Nat) (c : Nat → T4), (colsF rain ov bs)[i]? = some c → ∃ b ov', bs[i]? = some b ∧ c = colB rain b ov'
  | [], _, i, c, h => by simp [colsF] at h
  | b :: bs, ov, 0, c, h => ⟨b, ov, rfl, (Option.some.inj h).symm⟩
  | b :: bs, ov, i + 1, c, h => colsF_is rain bs _ i c h
theorem rangeMap_ne {α : Type} {n : Nat} {f : Nat → α} (h : 1 ≤ n) : (List.range n).map f ≠ [] := by
  intro e
  have := congrArg List.length e
  simp only [List.length_map, List.length_range, List.length_nil] at this
  omega
/-- a row whose numbers are in their ranges -/
structure RowOk (rain : List Int) (bs : List Bar) : Prop where
  len : 1 ≤ rain.length
  len2 : rain.length ≤ 12
  fall : ∀ r ∈ rain, 0 ≤ r ∧ r ≤ 1000000
  bars : ∀ b ∈ bs, barOk rain.length b
  cnt : bs.length ≤ 5
theorem pasAt_is {rain : List Int} {bs : List Bar} {T k : Nat} {p : Pas} (h : p ∈ pasAt rain bs T k) : ∃ b ov, b ∈ bs ∧ colB rain b ov ∈ cols rain bs ∧ p = ⟨bef (colB rain b ov) T, b.cap, (List.range k).map fun j => colB rain b ov (T + j)⟩ := by
  obtain ⟨i, hi⟩ := List.mem_iff_getElem?.mp h
  unfold pasAt at hi
  rw [List.getElem?_zipWith] at hi
  cases ec : (cols rain bs)[i]? with
  | none => rw [ec] at hi; simp at hi
  | some c =>
    obtain ⟨b, ov, eb, rfl⟩ := colsF_is rain bs _ i c ec
    rw [ec, eb] at hi
    exact ⟨b, ov, List.mem_of_getElem? eb, List.mem_of_getElem? ec, (Option.some.inj hi).symm⟩
theorem pasAt_gain {rain : List Int} {bs : List Bar} (ok : RowOk rain bs) {T : Nat} {p : Pas} (h : p ∈ pasAt rain bs T rain.length) : 0 ≤ p.gain ∧ p.gain ≤ 1000000000 ∧ 1 ≤ p.alike ∧ p.rows ≠ [] ∧ p.rows.length = rain.length := by
  obtain ⟨b, ov, hb, hc, rfl⟩ := pasAt_is h
  have hk := ok.bars b hb
  obtain ⟨o1, o2, o3, o4, o5, o6, o7⟩ := hk
  have hl := last_round (c := colB rain b ov) (T := T) (cap := b.cap) ok.len
  have hg : (⟨bef (colB rain b ov) T, b.cap, (List.range rain.length).map fun j => colB rain b ov (T + j)⟩ : Pas).gain = bef (colB rain b ov) (T + rain.length) - bef (colB rain b ov) T := by
    unfold Pas.gain
    rw [← hl]
  have hm := cols_mono rain bs _ hc T
  have h0 := bef_nonneg rain b ov T
  have h1 := bef_le (rain := rain) (ov := ov) o3 (fun d hd => (o7 d hd).1) (T + rain.length)
  refine ⟨by omega, by omega, ?_, ?_, by simp⟩
  · unfold Pas.alike
    split
    · decide
    · split
      · exact Int.le_refl _
      · rename_i g0 _
        have hp : (0 : Int) < (⟨bef (colB rain b ov) T, b.cap, (List.range rain.length).map fun j => colB rain b ov (T + j)⟩ : Pas).gain := by omega
        rw [Int.fdiv_eq_ediv_of_nonneg _ (by omega)]
        have hh : (⟨bef (colB rain b ov) T, b.cap, (List.range rain.length).map fun j => colB rain b ov (T + j)⟩ : Pas).highest ≤ b.cap := by
          unfold Pas.highest
          have hne : ((List.range rain.length).map fun j => colB rain b ov (T + j)) ≠ [] := rangeMap_ne ok.len
          have hmem := maxOf_mem (((List.range rain.length).map fun j => colB rain b ov (T + j)).map fun t => t.lv + t.dr) (fun e => hne (List.map_eq_nil_iff.mp e))
          obtain ⟨t, ht, e⟩ := List.mem_map.mp hmem
          obtain ⟨j, _, rfl⟩ := List.mem_map.mp ht
          rw [← e, bef_col]
          exact tick_there _ _ _ _
        have : 0 ≤ (b.cap - (⟨bef (colB rain b ov) T, b.cap, (List.range rain.length).map fun j => colB rain b ov (T + j)⟩ : Pas).highest) / (⟨bef (colB rain b ov) T, b.cap, (List.range rain.length).map fun j => colB rain b ov (T + j)⟩ : Pas).gain := Int.ediv_nonneg (by omega) (by omega)
        show (1 : Int) ≤ 1 + (b.cap - (⟨bef (colB rain b ov) T, b.cap, (List.range rain.length).map fun j => colB rain b ov (T + j)⟩ : Pas).highest) / (⟨bef (colB rain b ov) T, b.cap, (List.range rain.length).map fun j => colB rain b ov (T + j)⟩ : Pas).gain
        omega
  · exact rangeMap_ne ok.len
/-! ### few steps: each barrel's ways change in one direction while its inflow stays -/
def Pas.phase (p : Pas) : Nat := if p.gain = 0 then 0 else if p.missed.sum > 0 then 3 else if p.over.sum > 0 then 1 else 2
theorem phase_le (p : Pas) : p.phase ≤ 3 := by
  unfold Pas.phase
  split
  · omega
  · split
    · omega
    · split <;> omega
theorem last_eq {s cap : Int} {l : List (Int × Int)} : (⟨s, cap, rowsB cap s l⟩ : Pas).last = lvB cap s l := by
  unfold Pas.last Pas.after lvB
  simp only
  generalize rowsB cap s l = rows
  induction rows generalizing s with
  | nil => rfl
  | cons t r ih =>
    rw [List.map_cons, List.foldl_cons, ← ih, List.getLastD_cons]
theorem rowsB_ov (cap : Int) : ∀ (l : List (Int × Int)) (s : Int), ∀ t ∈ rowsB cap s l, 0 ≤ t.ov
  | [], _, t, h => by cases h
  | (w, q) :: r, s, t, h => by
    rcases List.mem_cons.mp h with e | m
    · rw [e]
      unfold tickB
      simp only
      split <;> omega
    · exact rowsB_ov cap r _ t m
theorem sum_nonneg {α : Type} {f : α → Int} : ∀ {l : List α}, (∀ x ∈ l, 0 ≤ f x) → 0 ≤ (l.map f).sum
  | [], _ => Int.le_refl _
  | a :: r, h => by
    rw [List.map_cons, List.sum_cons]
    have := h a List.mem_cons_self
    have := sum_nonneg (l := r) fun x m => h x (List.mem_cons_of_mem _ m)
    omega
theorem lvB_cons (cap s w q : Int) (r : List (Int × Int)) : lvB cap s ((w, q) :: r) = lvB cap (tickB cap s w q).lv r := rfl
theorem tick_dry {cap s s' w q : Int} (h : s ≤ s') (hm : 0 < (tickB cap s' w q).ms) : (tickB cap s w q).lv = (tickB cap s' w q).lv := by
  unfold tickB at *
  simp only at *
  repeat' split at hm
  all_goals (repeat' split)
  all_goals omega
theorem tick_full {cap s s' w q : Int} (h : s ≤ s') (hm : 0 < (tickB cap s w q).ov) : (tickB cap s w q).lv = (tickB cap s' w q).lv := by
  have a : s + w - cap > 0 := by
    unfold tickB at hm
    simp only at hm
    split at hm <;> omega
  have a' : s' + w - cap > 0 := by omega
  unfold tickB
  simp only [if_pos a, if_pos a']
  have e1 : s + w - (s + w - cap) = cap := by omega
  have e2 : s' + w - (s' + w - cap) = cap := by omega
  rw [e1, e2]
theorem end_dry {cap : Int} : ∀ (l : List (Int × Int)) (s s' : Int), s ≤ s' → 0 < ((rowsB cap s' l).map T4.ms).sum → lvB cap s l = lvB cap s' l
  | [], s, s', _, hm => by simp [rowsB] at hm
  | (w, q) :: r, s, s', h, hm => by
    rw [lvB_cons, lvB_cons]
    by_cases h0 : 0 < (tickB cap s' w q).ms
    · rw [tick_dry h h0]
    · have hz := tick_ms cap s' w q
      have e : (rowsB cap s' ((w, q) :: r)).map T4.ms = (tickB cap s' w q).ms :: (rowsB cap (tickB cap s' w q).lv r).map T4.ms := rfl
      rw [e, List.sum_cons] at hm
      exact end_dry r _ _ (tick_mono h (Int.le_refl _)).1 (by omega)
theorem end_full {cap : Int} : ∀ (l : List (Int × Int)) (s s' : Int), s ≤ s' → 0 < ((rowsB cap s l).map T4.ov).sum → lvB cap s l = lvB cap s' l
  | [], s, s', _, hm => by simp [rowsB] at hm
  | (w, q) :: r, s, s', h, hm => by
    rw [lvB_cons, lvB_cons]
    have hz : 0 ≤ (tickB cap s w q).ov := rowsB_ov cap [(w, q)] s _ List.mem_cons_self
    by_cases h0 : 0 < (tickB cap s w q).ov
    · rw [tick_full h h0]
    · have e : (rowsB cap s ((w, q) :: r)).map T4.ov = (tickB cap s w q).ov :: (rowsB cap (tickB cap s w q).lv r).map T4.ov := rfl
      rw [e, List.sum_cons] at hm
      exact end_full r _ _ (tick_mono h (Int.le_refl _)).1 (by omega)
theorem tick_ms_mono {cap s s' w q : Int} (h : s ≤ s') : (tickB cap s' w q).ms ≤ (tickB cap s w q).ms := by
  unfold tickB
  simp only
  split <;> split <;> split <;> split <;> omega
theorem ms_mono {cap : Int} : ∀ (l : List (Int × Int)) (s s' : Int), s ≤ s' → ((rowsB cap s' l).map T4.ms).sum ≤ ((rowsB cap s l).map T4.ms).sum
  | [], _, _, _ => Int.le_refl _
  | (w, q) :: r, s, s', h => by
    have e : ∀ s, (rowsB cap s ((w, q) :: r)).map T4.ms = (tickB cap s w q).ms :: (rowsB cap (tickB cap s w q).lv r).map T4.ms := fun _ => rfl
    rw [e, e, List.sum_cons, List.sum_cons]
    have := ms_mono (cap := cap) r _ _ (tick_mono (cap := cap) (q := q) h (Int.le_refl w)).1
    have := tick_ms_mono (cap := cap) (w := w) (q := q) h
    omega
theorem tick_shift2 {cap level water wish δ : Int} (hδ : 0 ≤ δ) (h1 : (tickB cap level water wish).ms = 0) (h2 : (tickB cap (level + δ) water wish).ov = 0) : tickB cap (level + δ) water wish = shT δ (tickB cap level water wish) := by
  have a' : ¬ level + δ + water - cap > 0 := by
    unfold tickB at h2
    simp only at h2
    split at h2 <;> omega
  have a : ¬ level + water - cap > 0 := by omega
  unfold tickB at h1
  simp only [if_neg a] at h1
  unfold tickB shT
  simp only [if_neg a, if_neg a']
  by_cases b : wish < level + water - 0
  · have b' : wish < level + δ + water - 0 := by omega
    simp only [if_pos b, if_pos b']
    congr 1
    omega
  · rw [if_neg b] at h1
    by_cases b' : wish < level + δ + water - 0
    · simp only [if_neg b, if_pos b']
      congr 1 <;> omega
    · simp only [if_neg b, if_neg b']
      congr 1 <;> omega
theorem rowsB_shift2 {cap δ : Int} (hδ : 0 ≤ δ) : ∀ (l : List (Int × Int)) (s : Int), (∀ t ∈ rowsB cap s l, t.ms = 0) → (∀ t ∈ rowsB cap (s + δ) l, t.ov = 0) → rowsB cap (s + δ) l = (rowsB cap s l).map (shT δ)
  | [], _, _, _ => rfl
  | (w, q) :: r, s, h, h' => by
    have e := tick_shift2 hδ (h (tickB cap s w q) List.mem_cons_self) (h' (tickB cap (s + δ) w q) List.mem_cons_self)
    show tickB cap (s + δ) w q :: rowsB cap (tickB cap (s + δ) w q).lv r = shT δ (tickB cap s w q) :: (rowsB cap (tickB cap s w q).lv r).map (shT δ)
    have h'' : ∀ t ∈ rowsB cap (tickB cap (s + δ) w q).lv r, t.ov = 0 := fun t m => h' t (List.mem_cons_of_mem _ m)
    rw [e] at h'' ⊢
    refine congrArg _ ?_
    exact rowsB_shift2 hδ r (tickB cap s w q).lv (fun t m => h t (List.mem_cons_of_mem _ m)) h''
theorem rowsB_there (cap : Int) : ∀ (l : List (Int × Int)) (s : Int), ∀ t ∈ rowsB cap s l, t.lv + t.dr ≤ cap
  | [], _, t, h => by cases h
  | (w, q) :: r, s, t, h => by
    rcases List.mem_cons.mp h with e | m
    · rw [e]; exact tick_there _ _ _ _
    · exact rowsB_there cap r _ t m
theorem rowsB_full (cap : Int) : ∀ (l : List (Int × Int)) (s : Int), ∀ t ∈ rowsB cap s l, 0 < t.ov → t.lv + t.dr = cap
  | [], _, t, h, _ => by cases h
  | (w, q) :: r, s, t, h, ho => by
    rcases List.mem_cons.mp h with e | m
    · rw [e] at ho ⊢
      have a : s + w - cap > 0 := by
        unfold tickB at ho
        simp only at ho
        split at ho <;> omega
      unfold tickB
      simp only [if_pos a]
      omega
    · exact rowsB_full cap r _ t m ho
theorem sum_pos_ex {α : Type} {f : α → Int} : ∀ {l : List α}, 0 < (l.map f).sum → ∃ x ∈ l, 0 < f x
  | [], h => by simp at h
  | a :: r, h => by
    rw [List.map_cons, List.sum_cons] at h
    by_cases h0 : 0 < f a
    · exact ⟨a, List.mem_cons_self, h0⟩
    · obtain ⟨x, m, hx⟩ := sum_pos_ex (l := r) (f := f) (by omega)
      exact ⟨x, List.mem_cons_of_mem _ m, hx⟩
/-- a passage whose likeness ends comes into a later phase -/
theorem phase_down {s cap : Int} {fl ws : List Int} {c : Nat} (hne : (mkPas s cap fl ws).rows ≠ []) (hg : 0 < (mkPas s cap fl ws).gain) (hc : (c : Int) = (mkPas s cap fl ws).alike) :
    (mkPas (s + (c : Int) * (mkPas s cap fl ws).gain) cap fl ws).phase < (mkPas s cap fl ws).phase := by
  generalize hl : fl.zip ws = l at *
  have hrow : ∀ s, (mkPas s cap fl ws) = ⟨s, cap, rowsB cap s l⟩ := fun s => by unfold mkPas; rw [hl]
  rw [hrow] at hne hg hc ⊢
  rw [hrow]
  generalize hp : (⟨s, cap, rowsB cap s l⟩ : Pas) = p at *
  have hgain : p.gain = lvB cap s l - s := by rw [← hp]; unfold Pas.gain; rw [last_eq]
  have hms : p.missed = (rowsB cap s l).map T4.ms := by rw [← hp]; rfl
  have hov : p.over = (rowsB cap s l).map T4.ov := by rw [← hp]; rfl
  have hphase : ∀ s', (⟨s', cap, rowsB cap s' l⟩ : Pas).phase = if lvB cap s' l - s' = 0 then 0 else if ((rowsB cap s' l).map T4.ms).sum > 0 then 3 else if ((rowsB cap s' l).map T4.ov).sum > 0 then 1 else 2 := by
    intro s'
    unfold Pas.phase Pas.gain
    rw [last_eq]
    rfl
  have hpp : p.phase = if ((rowsB cap s l).map T4.ms).sum > 0 then 3 else if ((rowsB cap s l).map T4.ov).sum > 0 then 1 else 2 := by
    rw [← hp, hphase s, if_neg (by omega)]
  rw [hphase, hpp]
  unfold Pas.alike at hc
  rw [if_neg (by omega), hms] at hc
  by_cases h3 : ((rowsB cap s l).map T4.ms).sum > 0
  · rw [if_pos h3] at hc ⊢
    have hs : s + (c : Int) * p.gain = lvB cap s l := by rw [hc, Int.one_mul]; omega
    rw [hs]
    split
    · omega
    · split
      · rename_i h5 h6
        have := end_dry l s (lvB cap s l) (by omega) h6
        omega
      · split <;> omega
  · rw [if_neg h3] at hc ⊢
    have hm0 : ∀ t ∈ rowsB cap s l, t.ms = 0 := fun t ht => sum_nonpos_zero _ (fun x hx => by obtain ⟨t, ht, rfl⟩ := List.mem_map.mp hx; exact rowsB_ms cap l s t ht) (by omega) _ (List.mem_map.mpr ⟨t, ht, rfl⟩)
    rw [Int.fdiv_eq_ediv_of_nonneg _ (by omega)] at hc
    have hcap : p.cap = cap := by rw [← hp]
    have hhigh : p.highest = maxOf ((rowsB cap s l).map fun t => t.lv + t.dr) := by rw [← hp]; rfl
    have hrne : rowsB cap s l ≠ [] := by rw [← hp] at hne; exact hne
    have hle : p.highest ≤ cap := by
      rw [hhigh]
      obtain ⟨t, ht, e⟩ := List.mem_map.mp (maxOf_mem ((rowsB cap s l).map fun t => t.lv + t.dr) (fun e => hrne (List.map_eq_nil_iff.mp e)))
      rw [← e]
      exact rowsB_there cap l s t ht
    by_cases h1 : ((rowsB cap s l).map T4.ov).sum > 0
    · rw [if_pos h1]
      obtain ⟨t, ht, ho⟩ := sum_pos_ex h1
      have hf := rowsB_full cap l s t ht ho
      have := maxOf_ub ((rowsB cap s l).map fun t => t.lv + t.dr) _ (List.mem_map.mpr ⟨t, ht, rfl⟩)
      have e0 : p.cap - p.highest = 0 := by rw [hcap, hhigh]; omega
      rw [e0, Int.zero_ediv] at hc
      have hs : s + (c : Int) * p.gain = lvB cap s l := by rw [hc]; omega
      rw [hs]
      have := end_full l s (lvB cap s l) (by omega) h1
      rw [if_pos (by omega)]
      omega
    · rw [if_neg h1]
      split
      · omega
      · have hdl : 0 ≤ (c : Int) * p.gain := Int.mul_nonneg (by omega) (by omega)
        have := ms_mono (cap := cap) l s (s + (c : Int) * p.gain) (by omega)
        rw [if_neg (by omega)]
        split
        · omega
        · exfalso
          rename_i h7
          have ho0 : ∀ t ∈ rowsB cap (s + (c : Int) * p.gain) l, t.ov = 0 := fun t ht => sum_nonpos_zero _ (fun x hx => by obtain ⟨t, ht, rfl⟩ := List.mem_map.mp hx; exact rowsB_ov cap l _ t ht) (by omega) _ (List.mem_map.mpr ⟨t, ht, rfl⟩)
          have e := rowsB_shift2 hdl l s hm0 ho0
          obtain ⟨t, ht, e2⟩ := List.mem_map.mp (maxOf_mem ((rowsB cap s l).map fun t => t.lv + t.dr) (fun e => hrne (List.map_eq_nil_iff.mp e)))
          have h8 := rowsB_there cap l (s + (c : Int) * p.gain) (shT ((c : Int) * p.gain) t) (by rw [e]; exact List.mem_map.mpr ⟨t, ht, rfl⟩)
          have h9 : (shT ((c : Int) * p.gain) t).lv + (shT ((c : Int) * p.gain) t).dr = t.lv + t.dr + (c : Int) * p.gain := by unfold shT; simp only; omega
          rw [h9, e2, ← hhigh] at h8
          have h10 : (c : Int) * p.gain ≤ p.cap - p.highest := by rw [hcap]; omega
          have h11 := (Int.le_ediv_iff_mul_le hg).mpr h10
          omega
/-- the phases as one number -/
def val : List Pas → Nat
  | [] => 0
  | p :: r => p.phase * 4 ^ r.length + val r
theorem val_lt : ∀ ps : List Pas, val ps < 4 ^ ps.length
  | [] => by simp [val]
  | p :: r => by
    have := val_lt r
    have := phase_le p
    show p.phase * 4 ^ r.length + val r < 4 ^ (r.length + 1)
    rw [Nat.pow_succ]
    have : p.phase * 4 ^ r.length ≤ 3 * 4 ^ r.length := Nat.mul_le_mul_right _ this
    omega
theorem shift_phase (δ : Int) (p : Pas) : (p.shift δ).phase = p.phase := by
  unfold Pas.phase
  rw [shift_missed, shift_over]
  have : (p.shift δ).gain = p.gain := by
    unfold Pas.gain
    rw [shift_last]
    show p.last + δ - (p.start + δ) = _
    omega
  rw [this]
theorem val_down (rain : List Int) (c : Nat) : ∀ (bs : List Bar) (over ls : List Int), bs.length = ls.length → (∀ p ∈ passFrom rain over bs ls, 0 ≤ p.gain ∧ (c : Int) ≤ p.alike ∧ p.rows ≠ []) → (∃ p ∈ passFrom rain over bs ls, (c : Int) = p.alike ∧ p.gain ≠ 0) →
    val (passFrom rain over bs ((passFrom rain over bs ls).map fun p => p.start + (c : Int) * p.gain)) < val (passFrom rain over bs ls)
  | [], _, _, _, _, ⟨p, hp, _⟩ => by simp [passFrom] at hp
  | b :: bs, _, [], hl, _, _ => by simp at hl
  | b :: bs, over, l :: ls, hl, h, hex => by
    have h0 := h (mkPas l b.cap (inflowOf rain over b) b.draws) List.mem_cons_self
    show val (mkPas (l + (c : Int) * (mkPas l b.cap (inflowOf rain over b) b.draws).gain) b.cap (inflowOf rain over b) b.draws :: passFrom rain (mkPas (l + (c : Int) * (mkPas l b.cap (inflowOf rain over b) b.draws).gain) b.cap (inflowOf rain over b) b.draws).over bs _) <
      val (mkPas l b.cap (inflowOf rain over b) b.draws :: passFrom rain (mkPas l b.cap (inflowOf rain over b) b.draws).over bs ls)
    by_cases hf : (c : Int) = (mkPas l b.cap (inflowOf rain over b) b.draws).alike ∧ (mkPas l b.cap (inflowOf rain over b) b.draws).gain ≠ 0
    · have hd := phase_down h0.2.2 (by have := h0.1; omega) hf.1
      generalize (mkPas (l + (c : Int) * (mkPas l b.cap (inflowOf rain over b) b.draws).gain) b.cap (inflowOf rain over b) b.draws) = p' at *
      generalize (mkPas l b.cap (inflowOf rain over b) b.draws) = p at *
      generalize ht : passFrom rain p'.over bs _ = t' at *
      generalize ht2 : passFrom rain p.over bs ls = t at *
      have hlen : t'.length = t.length := by
        rw [← ht, ← ht2, passFrom_length, passFrom_length, List.length_map, ht2, ← ht2, passFrom_length]
        simp at hl
        omega
      have v1 := val_lt t'
      show p'.phase * 4 ^ t'.length + val t' < p.phase * 4 ^ t.length + val t
      rw [hlen] at v1 ⊢
      have : (p'.phase + 1) * 4 ^ t.length ≤ p.phase * 4 ^ t.length := Nat.mul_le_mul_right _ hd
      rw [Nat.add_mul] at this
      omega
    · have hs : (c : Int) * (mkPas l b.cap (inflowOf rain over b) b.draws).gain = 0 ∨ (0 < (c : Int) * (mkPas l b.cap (inflowOf rain over b) b.draws).gain ∧ ∀ t ∈ (mkPas l b.cap (inflowOf rain over b) b.draws).rows, t.ms = 0 ∧ t.lv + t.dr + (c : Int) * (mkPas l b.cap (inflowOf rain over b) b.draws).gain ≤ (mkPas l b.cap (inflowOf rain over b) b.draws).cap) := by
        by_cases hg0 : (mkPas l b.cap (inflowOf rain over b) b.draws).gain = 0
        · left; rw [hg0, Int.mul_zero]
        · refine alike_shift (p := mkPas l b.cap (inflowOf rain over b) b.draws) (j := c) (rowsB_ms _ _ _) h0.1 ?_
          have : (c : Int) ≠ (mkPas l b.cap (inflowOf rain over b) b.draws).alike := fun e => hf ⟨e, hg0⟩
          have := h0.2.1
          omega
      have e := mkPas_shift hs
      rw [e, shift_over]
      have hex' : ∃ p ∈ passFrom rain (mkPas l b.cap (inflowOf rain over b) b.draws).over bs ls, (c : Int) = p.alike ∧ p.gain ≠ 0 := by
        obtain ⟨p, hp, q⟩ := hex
        rcases List.mem_cons.mp hp with e | m
        · rw [e] at q; exact absurd q hf
        · exact ⟨p, m, q⟩
      have ih := val_down rain c bs (mkPas l b.cap (inflowOf rain over b) b.draws).over ls (by simpa using hl) (fun p m => h p (List.mem_cons_of_mem _ m)) hex'
      show _ * 4 ^ _ + _ < _ * 4 ^ _ + _
      rw [shift_phase]
      have hlen : (passFrom rain (mkPas l b.cap (inflowOf rain over b) b.draws).over bs ((passFrom rain (mkPas l b.cap (inflowOf rain over b) b.draws).over bs ls).map fun p => p.start + (c : Int) * p.gain)).length = (passFrom rain (mkPas l b.cap (inflowOf rain over b) b.draws).over bs ls).length := by
        rw [passFrom_length, List.length_map, passFrom_length]
        omega
      have ih2 : val (passFrom rain (mkPas l b.cap (inflowOf rain over b) b.draws).over bs (List.map (fun p => p.start + (c : Int) * p.gain) (passFrom rain (mkPas l b.cap (inflowOf rain over b) b.draws).over bs ls))) < val (passFrom rain (mkPas l b.cap (inflowOf rain over b) b.draws).over bs ls) := ih
      rw [hlen]
      omega
/-! ### what a walk tells -/
/-- steps of whole rounds from the first on, R in all: a count and the passages of the first of so many rounds in which the same is drawn, missed and overflows -/
inductive StepsOk (rain : List Int) (bs : List Bar) (R : Nat) : List (Int × List Pas) → Nat → Prop where
  | nil : StepsOk rain bs R [] 0
  | snoc {L : List (Int × List Pas)} {r c : Nat} : StepsOk rain bs R L r → 1 ≤ c → r + c ≤ R → (∀ p ∈ pasAt rain bs (r * rain.length) rain.length, (c : Int) ≤ p.alike) → (r + c = R ∨ ∃ p ∈ pasAt rain bs (r * rain.length) rain.length, (c : Int) = p.alike) →
      StepsOk rain bs R (L ++ [((c : Int), pasAt rain bs (r * rain.length) rain.length)]) (r + c)
theorem pasAt_ticks {rain : List Int} {bs : List Bar} (ok : RowOk rain bs) (r : Nat) : passTicks rain bs (lvAt rain bs (r * rain.length)) = pasAt rain bs (r * rain.length) rain.length := by
  have := passTicks_cols (rain := rain) (bs := bs) (T := r * rain.length) (k := rain.length) (Nat.le_refl _) (Nat.mul_mod_left _ _) fun b hb => (ok.bars b hb).2.1
  rw [List.take_length] at this
  exact this
theorem pasAt_start {rain : List Int} {bs : List Bar} (T k : Nat) : (pasAt rain bs T k).map Pas.start = lvAt rain bs T := by
  unfold pasAt lvAt
  apply List.ext_getElem
  · simp [cols_length]
  · intro i h1 h2
    simp
theorem leap {rain : List Int} {bs : List Bar} (ok : RowOk rain bs) (r : Nat) : ∀ c : Nat, (∀ p ∈ pasAt rain bs (r * rain.length) rain.length, (c : Int) ≤ p.alike) →
    (∀ j, j < c → pasAt rain bs ((r + j) * rain.length) rain.length = (pasAt rain bs (r * rain.length) rain.length).map fun p => p.shift ((j : Int) * p.gain)) ∧
    lvAt rain bs ((r + c) * rain.length) = (pasAt rain bs (r * rain.length) rain.length).map fun p => p.start + (c : Int) * p.gain
  | 0, _ => by
    refine ⟨fun j hj => absurd hj (Nat.not_lt_zero _), ?_⟩
    rw [Nat.add_zero, ← pasAt_start (rain := rain) (bs := bs) (r * rain.length) rain.length]
    apply List.map_congr_left
    intro p _
    simp
  | c + 1, h => by
    obtain ⟨h1, h2⟩ := leap ok r c fun p hp => by have := h p hp; omega
    have e : pasAt rain bs ((r + c) * rain.length) rain.length = (pasAt rain bs (r * rain.length) rain.length).map fun p => p.shift ((c : Int) * p.gain) := by
      rw [← pasAt_ticks ok (r + c), h2, ← pasAt_ticks ok r]
      unfold passTicks
      refine passFrom_shift rain c bs _ _ (by simp [lvAt, cols_length]) fun p hp => ?_
      have hp' : p ∈ pasAt rain bs (r * rain.length) rain.length := by rw [← pasAt_ticks ok r]; exact hp
      exact ⟨(pasAt_gain ok hp').1, by have := h p hp'; omega⟩
    refine ⟨fun j hj => ?_, ?_⟩
    · by_cases hjc : j < c
      · exact h1 j hjc
      · have : j = c := by omega
        subst this
        exact e
    · rw [show (r + (c + 1)) * rain.length = (r + c) * rain.length + rain.length by rw [← Nat.add_assoc, Nat.add_mul (r + c) 1, Nat.one_mul], lvAt_round ok.len, e, List.map_map]
      apply List.map_congr_left
      intro p _
      show (p.shift ((c : Int) * p.gain)).last = p.start + ((c + 1 : Nat) : Int) * p.gain
      rw [shift_last]
      unfold Pas.gain
      have : ((c + 1 : Nat) : Int) * (p.last - p.start) = (c : Int) * (p.last - p.start) + (p.last - p.start) := by
        rw [Int.natCast_add, Int.add_mul]
        simp
      omega
theorem pasAt_length {rain : List Int} {bs : List Bar} {T k : Nat} : (pasAt rain bs T k).length = bs.length := by
  unfold pasAt
  simp [cols_length]
theorem steps_few {rain : List Int} {bs : List Bar} {R : Nat} (ok : RowOk rain bs) (hR : (R : Int) ≤ forever) {L : List (Int × List Pas)} {r : Nat} (h : StepsOk rain bs R L r) : (r < R → L.length + val (pasAt rain bs (r * rain.length) rain.length) < 4 ^ bs.length) ∧ L.length ≤ 4 ^ bs.length := by
  induction h with
  | nil =>
    refine ⟨fun _ => ?_, Nat.zero_le _⟩
    have := val_lt (pasAt rain bs (0 * rain.length) rain.length)
    rw [pasAt_length] at this
    simpa using this
  | @snoc L r c hs hc hrc hal hend ih =>
    have h1 := ih.1 (by omega)
    refine ⟨fun hlt => ?_, by rw [List.length_append]; show L.length + 1 ≤ _; omega⟩
    rcases hend with e | ⟨p, hp, e⟩
    · omega
    · have hg : p.gain ≠ 0 := by
        intro h0
        have : p.alike = forever := by unfold Pas.alike; rw [if_pos h0]
        omega
      have hd := val_down rain c bs (List.replicate rain.length 0) (lvAt rain bs (r * rain.length)) (by simp [lvAt, cols_length]) (fun q hq => by
        have hq' : q ∈ pasAt rain bs (r * rain.length) rain.length := by rw [← pasAt_ticks ok r]; exact hq
        exact ⟨(pasAt_gain ok hq').1, hal q hq', (pasAt_gain ok hq').2.2.2.1⟩) ⟨p, by rw [← pasAt_ticks ok r] at hp; exact hp, e, hg⟩
      have e1 : passFrom rain (List.replicate rain.length 0) bs (lvAt rain bs (r * rain.length)) = pasAt rain bs (r * rain.length) rain.length := pasAt_ticks ok r
      rw [e1, ← (leap ok r c hal).2] at hd
      have e2 : passFrom rain (List.replicate rain.length 0) bs (lvAt rain bs ((r + c) * rain.length)) = pasAt rain bs ((r + c) * rain.length) rain.length := pasAt_ticks ok (r + c)
      rw [e2] at hd
      rw [List.length_append]
      show L.length + 1 + _ < _
      omega
theorem steps_le {rain : List Int} {bs : List Bar} {R : Nat} {L : List (Int × List Pas)} {r : Nat} (ok : RowOk rain bs) (hR : (R : Int) ≤ forever) (h : StepsOk rain bs R L r) : L.length ≤ 1024 := by
  have h1 := (steps_few ok hR h).2
  have h2 : (4 : Nat) ^ bs.length ≤ 4 ^ 5 := Nat.pow_le_pow_right (by omega) ok.cnt
  have h3 : (4 : Nat) ^ 5 = 1024 := by decide
  omega
theorem steps_mem {rain : List Int} {bs : List Bar} {R : Nat} {L : List (Int × List Pas)} {r : Nat} (h : StepsOk rain bs R L r) : ∀ s ∈ L, s.2.length = bs.length ∧ 1 ≤ s.1 ∧ s.1 ≤ R := by
  induction h with
  | nil => intro s hs; cases hs
  | @snoc L r c hs hc hrc hal hend ih =>
    intro s hm
    rcases List.mem_append.mp hm with q | q
    · exact ih s q
    · rw [List.mem_singleton.mp q]
      exact ⟨pasAt_length, by show (1 : Int) ≤ (c : Int); omega, by show (c : Int) ≤ (R : Int); omega⟩
/-! ### a part of a row -/
theorem colsF_take (rain : List Int) : ∀ (bs : List Bar) (ov : Nat → Int) (k : Nat), colsF rain ov (bs.take k) = (colsF rain ov bs).take k
  | [], _, k => by simp [colsF]
  | b :: bs, ov, 0 => rfl
  | b :: bs, ov, k + 1 => congrArg _ (colsF_take rain bs _ k)
theorem cols_take (rain : List Int) (bs : List Bar) (k : Nat) : cols rain (bs.take k) = (cols rain bs).take k := colsF_take rain bs _ k
def colAt (rain : List Int) (bs : List Bar) (i : Nat) : Nat → T4 := (cols rain bs).getD i fun _ => ⟨0, 0, 0, 0⟩
theorem colAt_get {rain : List Int} {bs : List Bar} {i : Nat} (h : i < bs.length) : (cols rain bs)[i]? = some (colAt rain bs i) := by
  unfold colAt
  have : i < (cols rain bs).length := by rw [cols_length]; exact h
  simp [List.getD, this]
theorem colAt_take {rain : List Int} {bs : List Bar} {i k : Nat} (h : i < k) : colAt rain (bs.take k) i = colAt rain bs i := by
  unfold colAt
  rw [cols_take, List.getD_eq_getElem?_getD, List.getD_eq_getElem?_getD, List.getElem?_take_of_lt h]
theorem RowOk.take {rain : List Int} {bs : List Bar} (ok : RowOk rain bs) (k : Nat) : RowOk rain (bs.take k) := ⟨ok.len, ok.len2, ok.fall, fun b hb => ok.bars b (List.mem_of_mem_take hb), by rw [List.length_take]; have := ok.cnt; omega⟩
theorem pasAt_get {rain : List Int} {bs : List Bar} {T k i : Nat} {b : Bar} (h : bs[i]? = some b) : (pasAt rain bs T k)[i]? = some ⟨bef (colAt rain bs i) T, b.cap, (List.range k).map fun j => colAt rain bs i (T + j)⟩ := by
  unfold pasAt
  rw [List.getElem?_zipWith, colAt_get (List.getElem?_eq_some_iff.mp h).1, h]
/-! ### the columns as a simulation tick by tick makes them -/
def ovAbove (rain : List Int) (bs : List Bar) (i t : Nat) : Int := match i with
  | 0 => 0
  | i + 1 => (colAt rain bs i t).ov
theorem colsF_step (rain : List Int) : ∀ (bs : List Bar) (ov : Nat → Int) (i : Nat) (b : Bar) (t : Nat), bs[i]? = some b →
    (colsF rain ov bs).getD i (fun _ => ⟨0, 0, 0, 0⟩) t = tickB b.cap (bef ((colsF rain ov bs).getD i fun _ => ⟨0, 0, 0, 0⟩) t) (at0 rain (t % rain.length) * b.roof + (match i with | 0 => ov t | i + 1 => ((colsF rain ov bs).getD i (fun _ => ⟨0, 0, 0, 0⟩) t).ov)) (at0 b.draws (t % rain.length))
  | [], _, i, b, t, h => by simp at h
  | b0 :: bs, ov, 0, b, t, h => by
    cases (Option.some.inj h : b0 = b)
    exact bef_col rain b0 ov t
  | b0 :: bs, ov, 1, b, t, h => colsF_step rain bs _ 0 b t h
  | b0 :: bs, ov, i + 2, b, t, h => colsF_step rain bs _ (i + 1) b t h
theorem colAt_step {rain : List Int} {bs : List Bar} {i : Nat} {b : Bar} (t : Nat) (h : bs[i]? = some b) : colAt rain bs i t = tickB b.cap (bef (colAt rain bs i) t) (at0 rain (t % rain.length) * b.roof + ovAbove rain bs i t) (at0 b.draws (t % rain.length)) := by
  have := colsF_step rain bs (fun _ => 0) i b t h
  unfold colAt cols ovAbove at *
  rw [this]
  cases i <;> rfl
theorem lvAt_get {rain : List Int} {bs : List Bar} {i T : Nat} (h : i < bs.length) : (lvAt rain bs T)[i]? = some (bef (colAt rain bs i) T) := by
  unfold lvAt
  rw [List.getElem?_map, colAt_get h]
  rfl
theorem lvAt_length {rain : List Int} {bs : List Bar} {T : Nat} : (lvAt rain bs T).length = bs.length := by
  unfold lvAt
  rw [List.length_map, cols_length]
end Bk
set_option maxRecDepth 10000
namespace Bk
/-! ### sums over ticks -/
def dP : Pas := ⟨0, 0, []⟩
/-- what f tells of barrel i, summed over the first T ticks -/
def tot (rain : List Int) (bs : List Bar) (i : Nat) (f : T4 → Int) (T : Nat) : Int := ((List.range T).map fun t => f (colAt rain bs i t)).sum
theorem sum_append (a b : List Int) : (a ++ b).sum = a.sum + b.sum := by
  induction a with
  | nil => simp
  | cons x r ih => rw [List.cons_append, List.sum_cons, List.sum_cons, ih]; omega
theorem tot_add (rain : List Int) (bs : List Bar) (i : Nat) (f : T4 → Int) (T k : Nat) : tot rain bs i f (T + k) = tot rain bs i f T + ((List.range k).map fun j => f (colAt rain bs i (T + j))).sum := by
  unfold tot
  rw [List.range_add, List.map_append, sum_append, List.map_map]
  rfl
theorem pas_sum {rain : List Int} {bs : List Bar} {T k i : Nat} {b : Bar} (h : bs[i]? = some b) (f : T4 → Int) : (((pasAt rain bs T k).getD i dP).rows.map f).sum = ((List.range k).map fun j => f (colAt rain bs i (T + j))).sum := by
  rw [List.getD_eq_getElem?_getD, pasAt_get h]
  show (((List.range k).map fun j => colAt rain bs i (T + j)).map f).sum = _
  rw [List.map_map]
  rfl
theorem shift_sum {ps : List Pas} {i : Nat} (f : T4 → Int) (hf : ∀ δ t, f (shT δ t) = f t) (g : Pas → Int) : ((((ps.map fun p => p.shift (g p)).getD i dP).rows).map f).sum = ((ps.getD i dP).rows.map f).sum := by
  rw [List.getD_eq_getElem?_getD, List.getD_eq_getElem?_getD, List.getElem?_map]
  cases ps[i]? with
  | none => rfl
  | some p =>
    show (((p.rows.map (shT (g p))).map f)).sum = (p.rows.map f).sum
    rw [List.map_map, show f ∘ shT (g p) = f from funext fun t => hf _ t]
def stepSum (f : T4 → Int) (i : Nat) (L : List (Int × List Pas)) : Int := (L.map fun s => s.1 * ((s.2.getD i dP).rows.map f).sum).sum
theorem stepSum_snoc (f : T4 → Int) (i : Nat) (L : List (Int × List Pas)) (c : Int) (ps : List Pas) : stepSum f i (L ++ [(c, ps)]) = stepSum f i L + c * ((ps.getD i dP).rows.map f).sum := by
  unfold stepSum
  rw [List.map_append, sum_append]
  simp
theorem block_sum {rain : List Int} {bs : List Bar} (f : T4 → Int) (hf : ∀ δ t, f (shT δ t) = f t) {i : Nat} {b : Bar} (h : bs[i]? = some b) (r : Nat) : ∀ c : Nat, (∀ j, j < c → pasAt rain bs ((r + j) * rain.length) rain.length = (pasAt rain bs (r * rain.length) rain.length).map fun p => p.shift ((j : Int) * p.gain)) →
    tot rain bs i f ((r + c) * rain.length) = tot rain bs i f (r * rain.length) + (c : Int) * (((pasAt rain bs (r * rain.length) rain.length).getD i dP).rows.map f).sum
  | 0, _ => by simp
  | c + 1, hc => by
    have ih := block_sum f hf h r c fun j hj => hc j (by omega)
    rw [show (r + (c + 1)) * rain.length = (r + c) * rain.length + rain.length by rw [← Nat.add_assoc, Nat.add_mul (r + c) 1, Nat.one_mul], tot_add, ih, ← pas_sum h f, hc c (by omega), shift_sum f hf fun p => (c : Int) * p.gain]
    have : ((c + 1 : Nat) : Int) = (c : Int) + 1 := by omega
    rw [this, Int.add_mul, Int.one_mul]
    omega
theorem steps_sum {rain : List Int} {bs : List Bar} {R : Nat} (ok : RowOk rain bs) (f : T4 → Int) (hf : ∀ δ t, f (shT δ t) = f t) {i : Nat} {b : Bar} (h : bs[i]? = some b) {L : List (Int × List Pas)} {r : Nat} (hs : StepsOk rain bs R L r) : stepSum f i L = tot rain bs i f (r * rain.length) := by
  induction hs with
  | nil => simp [stepSum, tot]
  | @snoc L r c hs hc hrc hal hend ih => rw [stepSum_snoc, ih, block_sum f hf h r c (leap ok r c hal).1]
theorem tot_ticks {rain : List Int} {bs : List Bar} {i : Nat} {b : Bar} (h : bs[i]? = some b) (f : T4 → Int) (T k : Nat) : tot rain bs i f (T + k) = tot rain bs i f T + 1 * (((pasAt rain bs T k).getD i dP).rows.map f).sum := by
  rw [tot_add, pas_sum h f, Int.one_mul]
end Bk
set_option Elab.async false
set_option maxRecDepth 100000
namespace Bk
/-! ### the steps of a walk are one list -/
theorem steps_r {rain : List Int} {bs : List Bar} {R : Nat} {L : List (Int × List Pas)} {r : Nat} (h : StepsOk rain bs R L r) : r ≤ R := by
  cases h with
  | nil => exact Nat.zero_le _
  | snoc _ _ h _ _ => exact h
theorem steps_pre {rain : List Int} {bs : List Bar} {R : Nat} {L : List (Int × List Pas)} {r : Nat} (h : StepsOk rain bs R L r) : ∀ k, k ≤ L.length → ∃ rk, StepsOk rain bs R (L.take k) rk := by
  induction h with
  | nil => intro k _; exact ⟨0, by rw [List.take_nil]; exact .nil⟩
  | @snoc L r c hs h1 h2 h3 h4 ih =>
    intro k hk
    by_cases hl : k ≤ L.length
    · obtain ⟨rk, e⟩ := ih k hl
      exact ⟨rk, by rw [List.take_append_of_le_length hl]; exact e⟩
    · rw [List.length_append] at hk
      have : k = L.length + 1 := by
        have : k ≤ L.length + 1 := hk
        omega
      exact ⟨r + c, by rw [List.take_of_length_le (by rw [List.length_append]; show L.length + 1 ≤ k; omega)]; exact .snoc hs h1 h2 h3 h4⟩
theorem steps_u {rain : List Int} {bs : List Bar} {R : Nat} : ∀ (n : Nat) {L L' : List (Int × List Pas)} {r r' : Nat}, L.length = n → L'.length = n → StepsOk rain bs R L r → StepsOk rain bs R L' r' → L = L' ∧ r = r' := by
  intro n
  induction n with
  | zero =>
    intro L L' r r' h1 h2 a b
    cases a with
    | nil =>
      cases b with
      | nil => exact ⟨rfl, rfl⟩
      | snoc => rw [List.length_append] at h2; exact absurd h2 (Nat.succ_ne_zero _)
    | snoc => rw [List.length_append] at h1; exact absurd h1 (Nat.succ_ne_zero _)
  | succ n ih =>
    intro L L' r r' h1 h2 a b
    cases a with
    | nil => cases h1
    | @snoc M q c hs c1 c2 c3 c4 =>
      cases b with
      | nil => cases h2
      | @snoc M' q' c' hs' d1 d2 d3 d4 =>
        rw [List.length_append] at h1 h2
        obtain ⟨rfl, rfl⟩ := ih (Nat.succ.inj h1) (Nat.succ.inj h2) hs hs'
        have e : c = c' := by
          rcases c4 with c4 | ⟨p, hp, c4⟩
          · rcases d4 with d4 | ⟨p', hp', d4⟩
            · omega
            · have := c3 p' hp'
              omega
          · have := d3 p hp
            rcases d4 with d4 | ⟨p', hp', d4⟩
            · omega
            · have := c3 p' hp'
              omega
        subst e
        exact ⟨rfl, rfl⟩
theorem steps_le_one {rain : List Int} {bs : List Bar} {R : Nat} {L L' : List (Int × List Pas)} (a : StepsOk rain bs R L R) (b : StepsOk rain bs R L' R) (hl : L.length ≤ L'.length) : L = L' := by
  obtain ⟨rk, e⟩ := steps_pre b L.length hl
  obtain ⟨e1, e2⟩ := steps_u L.length rfl (by rw [List.length_take]; omega) a e
  by_cases h : L.length = L'.length
  · rw [e1, h, List.take_length]
  · obtain ⟨rk2, e'⟩ := steps_pre b (L.length + 1) (by omega)
    have hl2 : L.length < L'.length := by omega
    rw [List.take_succ_eq_append_getElem hl2, ← e1] at e'
    generalize L'[L.length] = s at e'
    have key : ∀ {N : List (Int × List Pas)} {q : Nat}, StepsOk rain bs R N q → N = L ++ [s] → False := by
      intro N q hN eN
      cases hN with
      | nil => have := congrArg List.length eN; rw [List.length_append] at this; exact absurd this.symm (Nat.succ_ne_zero _)
      | @snoc M q c hs c1 c2 c3 c4 =>
        have eM : M = L := (List.append_inj' eN rfl).1
        subst eM
        obtain ⟨_, e3⟩ := steps_u M.length rfl rfl a hs
        omega
    exact (key e' rfl).elim
theorem steps_unique {rain : List Int} {bs : List Bar} {R : Nat} {L L' : List (Int × List Pas)} (a : StepsOk rain bs R L R) (b : StepsOk rain bs R L' R) : L = L' := by
  rcases Nat.le_total L.length L'.length with h | h
  · exact steps_le_one a b h
  · exact (steps_le_one b a h).symm
/-- the count and the passages of the last step of a walk of R rounds -/
noncomputable def lastStep (rain : List Int) (bs : List Bar) (R : Nat) : Int × List Pas := by
  classical
  exact if h : ∃ (L : List (Int × List Pas)) (s : Int × List Pas), StepsOk rain bs R (L ++ [s]) R then h.choose_spec.choose else (0, [])
theorem lastStep_of {rain : List Int} {bs : List Bar} {R : Nat} {L : List (Int × List Pas)} {s : Int × List Pas} (a : StepsOk rain bs R (L ++ [s]) R) : lastStep rain bs R = s := by
  have h : ∃ (L : List (Int × List Pas)) (s : Int × List Pas), StepsOk rain bs R (L ++ [s]) R := ⟨L, s, a⟩
  unfold lastStep
  rw [dif_pos h]
  exact (List.cons.inj (List.append_inj' (steps_unique h.choose_spec.choose_spec a) rfl).2).1
theorem steps_last {rain : List Int} {bs : List Bar} {R : Nat} {L : List (Int × List Pas)} (hR : 0 < R) (a : StepsOk rain bs R L R) : ∃ (M : List (Int × List Pas)) (r c : Nat), L = M ++ [((c : Int), pasAt rain bs (r * rain.length) rain.length)] ∧ StepsOk rain bs R M r ∧ 1 ≤ c ∧ r + c = R ∧ (∀ p ∈ pasAt rain bs (r * rain.length) rain.length, (c : Int) ≤ p.alike) ∧ lastStep rain bs R = ((c : Int), pasAt rain bs (r * rain.length) rain.length) := by
  generalize hq : R = q at a
  cases a with
  | nil => omega
  | @snoc M r c hs c1 c2 c3 c4 =>
    refine ⟨M, r, c, rfl, hs, c1, rfl, c3, ?_⟩
    exact lastStep_of (.snoc hs c1 c2 c3 c4)
end Bk
set_option maxRecDepth 10000
namespace Bk
/-! ### more water in -/
theorem tick_ms2 {cap l l' w w' q : Int} (h1 : l ≤ l') (h2 : w ≤ w') : (tickB cap l' w' q).ms ≤ (tickB cap l w q).ms := by
  unfold tickB
  simp only
  split <;> split <;> split <;> split <;> omega
/-- c' has no less water than c -/
def LeC (c c' : Nat → T4) : Prop := ∀ t, bef c t ≤ bef c' t ∧ (c t).ov ≤ (c' t).ov ∧ (c' t).ms ≤ (c t).ms
theorem LeC.refl (c : Nat → T4) : LeC c c := fun _ => ⟨Int.le_refl _, Int.le_refl _, Int.le_refl _⟩
theorem LeC.lv {c c' : Nat → T4} (h : LeC c c') (t : Nat) : (c t).lv ≤ (c' t).lv := (h (t + 1)).1
theorem colF_le {cap : Int} {fl fl' ws : Nat → Int} (h : ∀ t, fl t ≤ fl' t) : LeC (colF cap 0 fl ws) (colF cap 0 fl' ws) := by
  have key : ∀ t, bef (colF cap 0 fl ws) t ≤ bef (colF cap 0 fl' ws) t := by
    intro t
    induction t with
    | zero => exact Int.le_refl _
    | succ t ih =>
      show (colF cap 0 fl ws t).lv ≤ (colF cap 0 fl' ws t).lv
      rw [colF_at cap fl ws t, colF_at cap fl' ws t]
      exact (tick_mono ih (h t)).1
  intro t
  refine ⟨key t, ?_⟩
  rw [colF_at cap fl ws t, colF_at cap fl' ws t]
  exact ⟨(tick_mono (key t) (h t)).2, tick_ms2 (key t) (h t)⟩
theorem colsF_le {rain rain' : List Int} (hl : rain'.length = rain.length) (hr : ∀ j, at0 rain j ≤ at0 rain' j) : ∀ (bs : List Bar) (ov ov' : Nat → Int), (∀ b ∈ bs, 0 ≤ b.roof) → (∀ t, ov t ≤ ov' t) → ∀ (i : Nat) (c c' : Nat → T4), (colsF rain ov bs)[i]? = some c → (colsF rain' ov' bs)[i]? = some c' → LeC c c'
  | [], _, _, _, _, i, c, c', h, _ => by simp [colsF] at h
  | b :: bs, ov, ov', hb, ho, i, c, c', h, h' => by
    have hL : LeC (colB rain b ov) (colB rain' b ov') := by
      unfold colB
      rw [hl]
      refine colF_le fun t => ?_
      have h1 := hr (t % rain.length)
      have h2 := ho t
      have h3 := Int.mul_le_mul_of_nonneg_right h1 (hb b List.mem_cons_self)
      omega
    cases i with
    | zero =>
      cases (Option.some.inj h : colB rain b ov = c)
      cases (Option.some.inj h' : colB rain' b ov' = c')
      exact hL
    | succ i => exact colsF_le hl hr bs _ _ (fun b hb' => hb b (List.mem_cons_of_mem _ hb')) (fun t => (hL t).2.1) i c c' h h'
theorem colAt_wet {rain : List Int} {bs : List Bar} {i j : Nat} {z : Int} (hi : i < bs.length) (hb : ∀ b ∈ bs, 0 ≤ b.roof) (hz : at0 rain j ≤ z) : LeC (colAt rain bs i) (colAt (rain.set j z) bs i) := by
  refine colsF_le (by rw [List.length_set]) (fun m => ?_) bs _ _ hb (fun _ => Int.le_refl _) i _ _ (colAt_get hi) (colAt_get hi)
  unfold at0 at hz ⊢
  rw [List.getD_eq_getElem?_getD, List.getD_eq_getElem?_getD, List.getElem?_set]
  rw [List.getD_eq_getElem?_getD] at hz
  by_cases h : j = m
  · subst h
    rw [if_pos rfl]
    split
    · exact hz
    · rename_i q
      rw [List.getElem?_eq_none (by omega)]
      exact Int.le_refl _
  · rw [if_neg h]
    exact Int.le_refl _
/-! ### a greater capacity -/
theorem tick_wide {cap d l l' w q : Int} (hd : 0 ≤ d) (h1 : l ≤ l') (h2 : l' ≤ l + d) : (tickB cap l w q).lv ≤ (tickB (cap + d) l' w q).lv ∧ (tickB (cap + d) l' w q).lv ≤ (tickB cap l w q).lv + d ∧ (tickB (cap + d) l' w q).ov ≤ (tickB cap l w q).ov ∧ (tickB (cap + d) l' w q).ms ≤ (tickB cap l w q).ms := by
  unfold tickB
  simp only
  refine ⟨?_, ?_, ?_, ?_⟩
  · split <;> split <;> split <;> split <;> omega
  · split <;> split <;> split <;> split <;> omega
  · split <;> split <;> omega
  · split <;> split <;> split <;> split <;> omega
theorem colF_wide {cap d : Int} {fl ws : Nat → Int} (hd : 0 ≤ d) : ∀ t, (bef (colF cap 0 fl ws) t ≤ bef (colF (cap + d) 0 fl ws) t ∧ bef (colF (cap + d) 0 fl ws) t ≤ bef (colF cap 0 fl ws) t + d) ∧ (colF (cap + d) 0 fl ws t).ov ≤ (colF cap 0 fl ws t).ov ∧ (colF (cap + d) 0 fl ws t).ms ≤ (colF cap 0 fl ws t).ms := by
  have key : ∀ t, bef (colF cap 0 fl ws) t ≤ bef (colF (cap + d) 0 fl ws) t ∧ bef (colF (cap + d) 0 fl ws) t ≤ bef (colF cap 0 fl ws) t + d := by
    intro t
    induction t with
    | zero => exact ⟨Int.le_refl _, by show (0 : Int) ≤ 0 + d; omega⟩
    | succ t ih =>
      show (colF cap 0 fl ws t).lv ≤ (colF (cap + d) 0 fl ws t).lv ∧ (colF (cap + d) 0 fl ws t).lv ≤ (colF cap 0 fl ws t).lv + d
      rw [colF_at cap fl ws t, colF_at (cap + d) fl ws t]
      have := tick_wide (cap := cap) (w := fl t) (q := ws t) hd ih.1 ih.2
      exact ⟨this.1, this.2.1⟩
  intro t
  refine ⟨key t, ?_⟩
  rw [colF_at cap fl ws t, colF_at (cap + d) fl ws t]
  exact (tick_wide hd (key t).1 (key t).2).2.2
/-- the same rain and barrels, less from above -/
theorem colsF_ovs {rain : List Int} {bs : List Bar} {ov ov' : Nat → Int} (hb : ∀ b ∈ bs, 0 ≤ b.roof) (ho : ∀ t, ov t ≤ ov' t) {i : Nat} {c c' : Nat → T4} (h : (colsF rain ov bs)[i]? = some c) (h' : (colsF rain ov' bs)[i]? = some c') : LeC c c' :=
  colsF_le rfl (fun _ => Int.le_refl _) bs ov ov' hb ho i c c' h h'
theorem colsF_wide {rain : List Int} {d : Int} (hd : 0 ≤ d) : ∀ (bs : List Bar) (ov : Nat → Int) (k : Nat) (b : Bar), (∀ b ∈ bs, 0 ≤ b.roof) → bs[k]? = some b → ∀ (i : Nat) (c c' : Nat → T4), (colsF rain ov bs)[i]? = some c → (colsF rain ov (bs.set k ⟨b.name, b.cap + d, b.roof, b.draws⟩))[i]? = some c' →
    (i = k → ∀ t, (c t).lv ≤ (c' t).lv ∧ (c' t).ms ≤ (c t).ms) ∧ ∀ t, (c' t).ov ≤ (c t).ov
  | [], _, k, b, _, hk, _, _, _, _, _ => by simp at hk
  | b0 :: bs, ov, 0, b, hb, hk, i, c, c', h, h' => by
    cases (Option.some.inj hk : b0 = b)
    rw [List.set_cons_zero] at h'
    have hw := colF_wide (cap := b0.cap) (d := d) (fl := fun t => at0 rain (t % rain.length) * b0.roof + ov t) (ws := fun t => at0 b0.draws (t % rain.length)) hd
    cases i with
    | zero =>
      cases (Option.some.inj h : colB rain b0 ov = c)
      cases (Option.some.inj h' : colB rain _ ov = c')
      refine ⟨fun _ t => ⟨(hw (t + 1)).1.1, (hw t).2.2⟩, fun t => (hw t).2.1⟩
    | succ i => exact ⟨fun e => by omega, fun t => ((colsF_ovs (fun b hb' => hb b (List.mem_cons_of_mem _ hb')) (fun t => (hw t).2.1) h' h) t).2.1⟩
  | b0 :: bs, ov, k + 1, b, hb, hk, i, c, c', h, h' => by
    rw [List.set_cons_succ] at h'
    cases i with
    | zero =>
      cases (Option.some.inj h : colB rain b0 ov = c)
      cases (Option.some.inj h' : colB rain b0 ov = c')
      exact ⟨fun e => by omega, fun t => Int.le_refl _⟩
    | succ i =>
      obtain ⟨q1, q2⟩ := colsF_wide hd bs _ k b (fun b hb' => hb b (List.mem_cons_of_mem _ hb')) hk i c c' h h'
      exact ⟨fun e => q1 (by omega), q2⟩
theorem colAt_wide {rain : List Int} {bs : List Bar} {i k : Nat} {b : Bar} {z : Int} (hi : i < bs.length) (hb : ∀ b ∈ bs, 0 ≤ b.roof) (hk : bs[k]? = some b) (hz : b.cap ≤ z) :
    (i = k → ∀ t, (colAt rain bs i t).lv ≤ (colAt rain (bs.set k ⟨b.name, z, b.roof, b.draws⟩) i t).lv ∧ (colAt rain (bs.set k ⟨b.name, z, b.roof, b.draws⟩) i t).ms ≤ (colAt rain bs i t).ms) ∧ ∀ t, (colAt rain (bs.set k ⟨b.name, z, b.roof, b.draws⟩) i t).ov ≤ (colAt rain bs i t).ov := by
  have := colsF_wide (rain := rain) (d := z - b.cap) (by omega) bs (fun _ => 0) k b hb hk i (colAt rain bs i) (colAt rain (bs.set k ⟨b.name, z, b.roof, b.draws⟩) i) (colAt_get hi) (by
    rw [show b.cap + (z - b.cap) = z by omega]
    exact colAt_get (by rw [List.length_set]; exact hi))
  exact this
theorem tot_le {rain rain' : List Int} {bs bs' : List Bar} {i i' : Nat} {f : T4 → Int} (h : ∀ t, f (colAt rain bs i t) ≤ f (colAt rain' bs' i' t)) (T : Nat) : tot rain bs i f T ≤ tot rain' bs' i' f T := by
  induction T with
  | zero => exact Int.le_refl _
  | succ T ih =>
    rw [tot_add, tot_add]
    have := h T
    simp only [List.range_one, List.map_cons, List.map_nil, List.sum_cons, List.sum_nil, Nat.add_zero, Int.add_zero]
    omega
end Bk
set_option maxRecDepth 10000
namespace Bk
def FV : Nat := 1000000000000000001
/-! ### the steps of a walk stand always -/
theorem step_max {rain : List Int} {bs : List Bar} {R r : Nat} : ∀ (k c : Nat), R - (r + c) = k → 1 ≤ c → r + c ≤ R → (∀ p ∈ pasAt rain bs (r * rain.length) rain.length, (c : Int) ≤ p.alike) →
    ∃ c' : Nat, 1 ≤ c' ∧ r + c' ≤ R ∧ (∀ p ∈ pasAt rain bs (r * rain.length) rain.length, (c' : Int) ≤ p.alike) ∧ (r + c' = R ∨ ∃ p ∈ pasAt rain bs (r * rain.length) rain.length, (c' : Int) = p.alike)
  | 0, c, hk, h1, h2, h3 => ⟨c, h1, h2, h3, .inl (by omega)⟩
  | k + 1, c, hk, h1, h2, h3 => by
    by_cases h : ∀ p ∈ pasAt rain bs (r * rain.length) rain.length, ((c + 1 : Nat) : Int) ≤ p.alike
    · exact step_max k (c + 1) (by omega) (by omega) (by omega) h
    · obtain ⟨p, hp⟩ := Classical.not_forall.mp h
      obtain ⟨hm, hp⟩ := Classical.not_imp.mp hp
      exact ⟨c, h1, h2, h3, .inr ⟨p, hm, by have := h3 p hm; omega⟩⟩
theorem steps_exist {rain : List Int} {bs : List Bar} (ok : RowOk rain bs) (R : Nat) : ∀ (k : Nat) (L : List (Int × List Pas)) (r : Nat), R - r = k → StepsOk rain bs R L r → ∃ M, StepsOk rain bs R M R := by
  intro k
  induction k using Nat.strongRecOn with
  | _ k ih =>
    intro L r hk h
    have hr := steps_r h
    by_cases e : r = R
    · subst e; exact ⟨L, h⟩
    · obtain ⟨c, c1, c2, c3, c4⟩ := step_max (rain := rain) (bs := bs) (R := R) (r := r) _ 1 rfl (Nat.le_refl _) (by omega) fun p hp => (pasAt_gain ok hp).2.2.1
      exact ih (R - (r + c)) (by omega) _ _ rfl (.snoc h c1 c2 c3 c4)
/-! ### a round that changes no level -/
def Still (rain : List Int) (bs : List Bar) (r : Nat) : Prop := ∀ i, i < bs.length → bef (colAt rain bs i) ((r + 1) * rain.length) = bef (colAt rain bs i) (r * rain.length)
theorem bef_mono {rain : List Int} {bs : List Bar} {i : Nat} (hi : i < bs.length) (r : Nat) : bef (colAt rain bs i) (r * rain.length) ≤ bef (colAt rain bs i) ((r + 1) * rain.length) := by
  rw [Nat.add_mul, Nat.one_mul]
  exact cols_mono rain bs _ (List.mem_of_getElem? (colAt_get hi)) _
theorem colAt_is {rain : List Int} {bs : List Bar} {i : Nat} {b : Bar} (hb : bs[i]? = some b) : ∃ ov, colAt rain bs i = colB rain b ov := by
  have hi := (List.getElem?_eq_some_iff.mp hb).1
  obtain ⟨b', ov, e1, e2⟩ := colsF_is rain bs _ i _ (colAt_get (rain := rain) hi)
  rw [hb] at e1
  cases Option.some.inj e1
  exact ⟨ov, e2⟩
theorem bef_cap {rain : List Int} {bs : List Bar} (ok : RowOk rain bs) {i : Nat} {b : Bar} (hb : bs[i]? = some b) (t : Nat) : 0 ≤ bef (colAt rain bs i) t ∧ bef (colAt rain bs i) t ≤ b.cap := by
  obtain ⟨ov, e⟩ := colAt_is (rain := rain) hb
  have hk := ok.bars b (List.mem_of_getElem? hb)
  rw [e]
  exact ⟨bef_nonneg _ _ _ t, bef_le hk.2.2.1 (fun d hd => (hk.2.2.2.2.2.2 d hd).1) t⟩
/-- from a still round on all comes again -/
theorem still_again {rain : List Int} {bs : List Bar} {r : Nat} (h : Still rain bs r) : ∀ (i : Nat), i < bs.length → ∀ t, bef (colAt rain bs i) (r * rain.length + t + rain.length) = bef (colAt rain bs i) (r * rain.length + t) ∧ colAt rain bs i (r * rain.length + t + rain.length) = colAt rain bs i (r * rain.length + t) := by
  intro i
  induction i with
  | zero =>
    intro hi
    have hb : bs[0]? = some bs[0] := List.getElem?_eq_getElem hi
    have key : ∀ t, bef (colAt rain bs 0) (r * rain.length + t + rain.length) = bef (colAt rain bs 0) (r * rain.length + t) := by
      intro t
      induction t with
      | zero =>
        have := h 0 hi
        rw [Nat.add_mul, Nat.one_mul] at this
        exact this
      | succ t ih =>
        rw [show r * rain.length + (t + 1) + rain.length = (r * rain.length + t + rain.length) + 1 by omega, show r * rain.length + (t + 1) = (r * rain.length + t) + 1 by omega]
        show (colAt rain bs 0 (r * rain.length + t + rain.length)).lv = (colAt rain bs 0 (r * rain.length + t)).lv
        rw [colAt_step (r * rain.length + t + rain.length) hb, colAt_step (r * rain.length + t) hb, ih, Nat.add_mod_right]
        rfl
    intro t
    refine ⟨key t, ?_⟩
    rw [colAt_step (r * rain.length + t + rain.length) hb, colAt_step (r * rain.length + t) hb, key t, Nat.add_mod_right]
    rfl
  | succ i ihi =>
    intro hi
    have hb : bs[i + 1]? = some bs[i + 1] := List.getElem?_eq_getElem hi
    have up := ihi (by omega)
    have hov : ∀ t, ovAbove rain bs (i + 1) (r * rain.length + t + rain.length) = ovAbove rain bs (i + 1) (r * rain.length + t) := fun t => by
      show (colAt rain bs i _).ov = (colAt rain bs i _).ov
      rw [(up t).2]
    have key : ∀ t, bef (colAt rain bs (i + 1)) (r * rain.length + t + rain.length) = bef (colAt rain bs (i + 1)) (r * rain.length + t) := by
      intro t
      induction t with
      | zero =>
        have := h (i + 1) hi
        rw [Nat.add_mul, Nat.one_mul] at this
        exact this
      | succ t ih =>
        rw [show r * rain.length + (t + 1) + rain.length = (r * rain.length + t + rain.length) + 1 by omega, show r * rain.length + (t + 1) = (r * rain.length + t) + 1 by omega]
        show (colAt rain bs (i + 1) (r * rain.length + t + rain.length)).lv = (colAt rain bs (i + 1) (r * rain.length + t)).lv
        rw [colAt_step (r * rain.length + t + rain.length) hb, colAt_step (r * rain.length + t) hb, ih, Nat.add_mod_right, hov t]
    intro t
    refine ⟨key t, ?_⟩
    rw [colAt_step (r * rain.length + t + rain.length) hb, colAt_step (r * rain.length + t) hb, key t, Nat.add_mod_right, hov t]
theorem still_far {rain : List Int} {bs : List Bar} {r : Nat} (h : Still rain bs r) {i : Nat} (hi : i < bs.length) (t : Nat) : ∀ k, bef (colAt rain bs i) (r * rain.length + t + k * rain.length) = bef (colAt rain bs i) (r * rain.length + t) ∧ colAt rain bs i (r * rain.length + t + k * rain.length) = colAt rain bs i (r * rain.length + t)
  | 0 => by rw [Nat.zero_mul, Nat.add_zero]; exact ⟨rfl, rfl⟩
  | k + 1 => by
    have ih := still_far h hi t k
    have := still_again h i hi (t + k * rain.length)
    rw [show r * rain.length + t + (k + 1) * rain.length = r * rain.length + (t + k * rain.length) + rain.length by rw [Nat.add_mul, Nat.one_mul]; omega, this.1, this.2, show r * rain.length + (t + k * rain.length) = r * rain.length + t + k * rain.length by omega]
    exact ih
theorem Still.on {rain : List Int} {bs : List Bar} {r q : Nat} (h : Still rain bs r) (hq : r ≤ q) : Still rain bs q := by
  intro i hi
  obtain ⟨k, rfl⟩ : ∃ k, q = r + k := ⟨q - r, by omega⟩
  have h1 := (still_far h hi 0 k).1
  have h2 := (still_far h hi 0 (k + 1)).1
  rw [Nat.add_zero] at h1 h2
  rw [show (r + k) * rain.length = r * rain.length + k * rain.length by rw [Nat.add_mul], show (r + k + 1) * rain.length = r * rain.length + (k + 1) * rain.length by rw [Nat.add_assoc r k 1, Nat.add_mul r (k + 1)], h1, h2]
/-! ### when it comes to rest -/
def capsOf (bs : List Bar) : Int := (bs.map Bar.cap).sum
def tl (rain : List Int) (bs : List Bar) (r : Nat) : Int := ((List.range bs.length).map fun i => bef (colAt rain bs i) (r * rain.length)).sum
theorem sum_le_map {α : Type} {f g : α → Int} : ∀ {l : List α}, (∀ x ∈ l, f x ≤ g x) → (l.map f).sum ≤ (l.map g).sum
  | [], _ => Int.le_refl _
  | a :: r, h => by
    rw [List.map_cons, List.map_cons, List.sum_cons, List.sum_cons]
    have := h a List.mem_cons_self
    have := sum_le_map (l := r) fun x hx => h x (List.mem_cons_of_mem _ hx)
    omega
theorem sum_lt_map {α : Type} {f g : α → Int} : ∀ {l : List α}, (∀ x ∈ l, f x ≤ g x) → (∃ x ∈ l, f x ≠ g x) → (l.map f).sum + 1 ≤ (l.map g).sum
  | [], _, h => by obtain ⟨x, hx, _⟩ := h; cases hx
  | a :: r, h, ⟨x, hx, hne⟩ => by
    rw [List.map_cons, List.map_cons, List.sum_cons, List.sum_cons]
    have h1 := h a List.mem_cons_self
    have h2 := sum_le_map (l := r) fun x hx => h x (List.mem_cons_of_mem _ hx)
    rcases List.mem_cons.mp hx with e | m
    · subst e; omega
    · have := sum_lt_map (l := r) (fun x hx => h x (List.mem_cons_of_mem _ hx)) ⟨x, m, hne⟩
      omega
theorem tl_le {rain : List Int} {bs : List Bar} (ok : RowOk rain bs) (r : Nat) : tl rain bs r ≤ capsOf bs := by
  have e : capsOf bs = ((List.range bs.length).map fun i => (bs.getD i ⟨default, 0, 0, []⟩).cap).sum := by
    unfold capsOf
    congr 1
    apply List.ext_getElem
    · simp
    · intro i h1 h2
      simp at h1 h2
      simp [h1]
  rw [e]
  refine sum_le_map fun i hi => ?_
  have hi := List.mem_range.mp hi
  have hb : bs[i]? = some bs[i] := List.getElem?_eq_getElem hi
  rw [List.getD_eq_getElem?_getD, hb]
  exact (bef_cap ok hb _).2
theorem tl_up {rain : List Int} {bs : List Bar} {r : Nat} (h : ¬ Still rain bs r) : tl rain bs r + 1 ≤ tl rain bs (r + 1) := by
  refine sum_lt_map (fun i hi => bef_mono (List.mem_range.mp hi) r) ?_
  obtain ⟨i, h⟩ := Classical.not_forall.mp h
  obtain ⟨hi, h⟩ := Classical.not_imp.mp h
  exact ⟨i, List.mem_range.mpr hi, fun e => h e.symm⟩
theorem tl_zero (rain : List Int) (bs : List Bar) : tl rain bs 0 = 0 := by
  unfold tl
  rw [show (fun i => bef (colAt rain bs i) (0 * rain.length)) = fun _ => (0 : Int) from funext fun i => by rw [Nat.zero_mul]; rfl]
  generalize bs.length = n
  induction n with
  | zero => rfl
  | succ n ih => rw [List.range_succ, List.map_append, sum_append, ih]; rfl
theorem tl_grow {rain : List Int} {bs : List Bar} : ∀ r : Nat, (∀ q, q < r → ¬ Still rain bs q) → (r : Int) ≤ tl rain bs r
  | 0, _ => by rw [tl_zero]; exact Int.le_refl _
  | r + 1, h => by
    have ih := tl_grow r fun q hq => h q (by omega)
    have := tl_up (h r (by omega))
    omega
/-- in at most so many rounds as the barrels hold water, all comes to rest -/
theorem still_at {rain : List Int} {bs : List Bar} (ok : RowOk rain bs) {r : Nat} (h : capsOf bs ≤ r) : Still rain bs r := by
  apply Classical.byContradiction
  intro hn
  have h1 := tl_grow (rain := rain) (bs := bs) (r + 1) fun q hq hs => hn (hs.on (by omega))
  have h2 := tl_le ok (r + 1)
  omega
theorem caps_le {rain : List Int} {bs : List Bar} (ok : RowOk rain bs) : capsOf bs ≤ 5000000000 := by
  have h1 : capsOf bs ≤ (bs.map fun _ => (1000000000 : Int)).sum := sum_le_map fun b hb => (ok.bars b hb).2.2.2.1
  have h2 : ∀ l : List Bar, (l.map fun _ => (1000000000 : Int)).sum = 1000000000 * l.length := by
    intro l
    induction l with
    | nil => rfl
    | cons a r ih => rw [List.map_cons, List.sum_cons, ih, List.length_cons]; omega
  rw [h2] at h1
  have := ok.cnt
  omega
/-! ### the settled round -/
theorem still_gain {rain : List Int} {bs : List Bar} (ok : RowOk rain bs) {r : Nat} : Still rain bs r ↔ ∀ p ∈ pasAt rain bs (r * rain.length) rain.length, p.gain = 0 := by
  have hn := ok.len
  have hg : ∀ i (b : Bar), bs[i]? = some b → (⟨bef (colAt rain bs i) (r * rain.length), b.cap, (List.range rain.length).map fun j => colAt rain bs i (r * rain.length + j)⟩ : Pas).gain = bef (colAt rain bs i) ((r + 1) * rain.length) - bef (colAt rain bs i) (r * rain.length) := by
    intro i b hb
    unfold Pas.gain
    rw [← last_round hn, Nat.add_mul, Nat.one_mul]
  constructor
  · intro h p hp
    obtain ⟨i, hi⟩ := List.mem_iff_getElem?.mp hp
    have hil : i < bs.length := by rw [← pasAt_length (rain := rain) (T := r * rain.length) (k := rain.length)]; exact (List.getElem?_eq_some_iff.mp hi).1
    have hb : bs[i]? = some bs[i] := List.getElem?_eq_getElem hil
    rw [pasAt_get hb] at hi
    rw [← Option.some.inj hi, hg i _ hb, h i hil]
    omega
  · intro h i hi
    have hb : bs[i]? = some bs[i] := List.getElem?_eq_getElem hi
    have := h _ (List.mem_of_getElem? (pasAt_get (rain := rain) (T := r * rain.length) (k := rain.length) hb))
    rw [hg i _ hb] at this
    omega
theorem shift_gain (δ : Int) (p : Pas) : (p.shift δ).gain = p.gain := by
  unfold Pas.gain
  rw [shift_last]
  show p.last + δ - (p.start + δ) = _
  omega
theorem alike_zero {p : Pas} (h : p.gain = 0) : p.alike = forever := by
  unfold Pas.alike
  rw [if_pos h]
/-- a block of alike rounds is still at its end only if it is at its beginning -/
theorem block_still {rain : List Int} {bs : List Bar} (ok : RowOk rain bs) {r c : Nat} (h1 : 1 ≤ c) (hc : ∀ p ∈ pasAt rain bs (r * rain.length) rain.length, (c : Int) ≤ p.alike) (h : Still rain bs (r + c - 1)) : Still rain bs r := by
  have hl := (leap ok r c hc).1 (c - 1) (by omega)
  rw [still_gain ok] at h ⊢
  intro p hp
  rw [show r + c - 1 = r + (c - 1) by omega, hl] at h
  have := h _ (List.mem_map_of_mem (f := fun p => p.shift ((c - 1 : Nat) * p.gain)) hp)
  rw [shift_gain] at this
  exact this
structure Settled (rain : List Int) (bs : List Bar) (S : Nat) : Prop where
  is : Still rain bs S
  fst : ∀ q, q < S → ¬ Still rain bs q
  cap : (S : Int) ≤ capsOf bs
  last : lastStep rain bs FV = ((FV : Int) - S, pasAt rain bs (S * rain.length) rain.length)
theorem settled {rain : List Int} {bs : List Bar} (ok : RowOk rain bs) : ∃ S, Settled rain bs S := by
  obtain ⟨L, hL⟩ := steps_exist ok FV _ [] 0 rfl .nil
  obtain ⟨M, r, c, rfl, hM, c1, hrc, c3, hls⟩ := steps_last (by decide) hL
  have hcaps := caps_le ok
  have hF : Still rain bs (r + c - 1) := still_at ok (by rw [hrc]; unfold FV; omega)
  have hS := block_still ok c1 c3 hF
  have hfirst : ∀ q, q < r → ¬ Still rain bs q := by
    intro q hq hs
    have hp : Still rain bs (r - 1) := hs.on (by omega)
    generalize hR : FV = R at hM
    cases hM with
    | nil => omega
    | @snoc N r' c' hs' d1 d2 d3 d4 =>
      have h0 := block_still ok d1 d3 hp
      rw [still_gain ok] at h0
      rcases d4 with e | ⟨p, hp', e⟩
      · omega
      · rw [alike_zero (h0 p hp')] at e
        unfold forever at e
        unfold FV at hR hrc
        omega
  refine ⟨r, hS, hfirst, ?_, ?_⟩
  · have h1 := tl_grow (rain := rain) (bs := bs) r hfirst
    have h2 := tl_le ok r
    omega
  · rw [hls, ← hrc]
    congr 1
    omega
end Bk
set_option maxRecDepth 10000
namespace Bk
open PySem
/-! ### sums of rounds at rest -/
theorem round_sum {rain : List Int} {bs : List Bar} {S : Nat} (h : Still rain bs S) {i : Nat} {b : Bar} (hb : bs[i]? = some b) (f : T4 → Int) : ∀ k : Nat, tot rain bs i f ((S + k) * rain.length) = tot rain bs i f (S * rain.length) + (k : Int) * (((pasAt rain bs (S * rain.length) rain.length).getD i dP).rows.map f).sum
  | 0 => by simp
  | k + 1 => by
    have hi := (List.getElem?_eq_some_iff.mp hb).1
    have ih := round_sum h hb f k
    rw [show (S + (k + 1)) * rain.length = (S + k) * rain.length + rain.length by rw [← Nat.add_assoc, Nat.add_mul (S + k) 1, Nat.one_mul], tot_add, ih, pas_sum hb f]
    have e : ((List.range rain.length).map fun j => f (colAt rain bs i ((S + k) * rain.length + j))) = (List.range rain.length).map fun j => f (colAt rain bs i (S * rain.length + j)) := by
      apply List.map_congr_left
      intro j _
      rw [show (S + k) * rain.length + j = S * rain.length + j + k * rain.length by rw [Nat.add_mul]; omega, (still_far h hi j k).2]
    rw [e]
    have : ((k + 1 : Nat) : Int) = (k : Int) + 1 := by omega
    rw [this, Int.add_mul, Int.one_mul]
    omega
/-! ### what falls is drawn, lost or there -/
theorem tick_bal (cap l w q : Int) : (tickB cap l w q).lv + (tickB cap l w q).dr + (tickB cap l w q).ov = l + w := by
  unfold tickB
  simp only
  omega
def sumR (n : Nat) (f : Nat → Int) : Int := ((List.range n).map f).sum
theorem sumR_succ (n : Nat) (f : Nat → Int) : sumR (n + 1) f = sumR n f + f n := by
  unfold sumR
  rw [List.range_succ, List.map_append, sum_append]
  simp
theorem sumR_congr {n : Nat} {f g : Nat → Int} (h : ∀ i, i < n → f i = g i) : sumR n f = sumR n g := by
  unfold sumR
  congr 1
  apply List.map_congr_left
  intro i hi
  exact h i (List.mem_range.mp hi)
theorem sumR_add (n : Nat) (f g : Nat → Int) : sumR n (fun i => f i + g i) = sumR n f + sumR n g := by
  induction n with
  | zero => rfl
  | succ n ih => rw [sumR_succ, sumR_succ, sumR_succ, ih]; omega
theorem sumR_app (n k : Nat) (f : Nat → Int) : sumR (n + k) f = sumR n f + sumR k (fun j => f (n + j)) := by
  induction k with
  | zero => exact (Int.add_zero _).symm
  | succ k ih => rw [← Nat.add_assoc, sumR_succ, sumR_succ, ih]; omega
def roofs (bs : List Bar) (k : Nat) : Int := sumR k fun i => (bs.getD i ⟨default, 0, 0, []⟩).roof
theorem row_bal {rain : List Int} {bs : List Bar} (t : Nat) : ∀ k, k ≤ bs.length → sumR k (fun i => (colAt rain bs i t).lv) + sumR k (fun i => (colAt rain bs i t).dr) + ovAbove rain bs k t = sumR k (fun i => bef (colAt rain bs i) t) + at0 rain (t % rain.length) * roofs bs k
  | 0, _ => by simp [sumR, roofs, ovAbove]
  | k + 1, h => by
    have ih := row_bal (rain := rain) (bs := bs) t k (by omega)
    have hb : bs[k]? = some (bs[k]'(by omega)) := List.getElem?_eq_getElem (by omega)
    have hs := tick_bal (bs[k]'(by omega)).cap (bef (colAt rain bs k) t) (at0 rain (t % rain.length) * (bs[k]'(by omega)).roof + ovAbove rain bs k t) (at0 (bs[k]'(by omega)).draws (t % rain.length))
    rw [← colAt_step t hb] at hs
    unfold roofs at ih ⊢
    rw [sumR_succ, sumR_succ, sumR_succ, sumR_succ, List.getD_eq_getElem?_getD, hb, Option.getD_some, Int.mul_add]
    show _ + (colAt rain bs k t).ov = _
    omega
theorem all_bal {rain : List Int} {bs : List Bar} (h : 1 ≤ bs.length) : ∀ T, sumR bs.length (fun i => bef (colAt rain bs i) T) + sumR bs.length (fun i => tot rain bs i T4.dr T) + tot rain bs (bs.length - 1) T4.ov T = sumR T (fun t => at0 rain (t % rain.length)) * roofs bs bs.length
  | 0 => by
    have z : ∀ n, sumR n (fun _ => (0 : Int)) = 0 := by
      intro n
      induction n with
      | zero => rfl
      | succ n ih => rw [sumR_succ, ih]; rfl
    show sumR bs.length (fun _ => (0 : Int)) + sumR bs.length (fun _ => (0 : Int)) + 0 = 0 * _
    rw [z, Int.zero_mul]
    rfl
  | T + 1 => by
    have ih := all_bal (rain := rain) h T
    have hr := row_bal (rain := rain) T bs.length (Nat.le_refl _)
    have e : ∀ i, tot rain bs i T4.dr (T + 1) = tot rain bs i T4.dr T + (colAt rain bs i T).dr := fun i => by
      rw [tot_add]; simp
    have e2 : tot rain bs (bs.length - 1) T4.ov (T + 1) = tot rain bs (bs.length - 1) T4.ov T + (colAt rain bs (bs.length - 1) T).ov := by
      rw [tot_add]; simp
    have e3 : ovAbove rain bs bs.length T = (colAt rain bs (bs.length - 1) T).ov := by
      obtain ⟨k, hk⟩ : ∃ k, bs.length = k + 1 := ⟨bs.length - 1, by omega⟩
      rw [hk]
      rfl
    rw [sumR_succ, Int.add_mul, ← ih, e2, show (fun i => tot rain bs i T4.dr (T + 1)) = fun i => tot rain bs i T4.dr T + (colAt rain bs i T).dr from funext e, sumR_add]
    show sumR bs.length (fun i => (colAt rain bs i T).lv) + _ + _ = _
    rw [e3] at hr
    omega
theorem sum_take (rain : List Int) : ∀ k, k ≤ rain.length → sumR k (fun j => at0 rain j) = (rain.take k).sum
  | 0, _ => rfl
  | k + 1, h => by
    have hk : rain[k]? = some rain[k] := List.getElem?_eq_getElem (by omega)
    rw [sumR_succ, sum_take rain k (by omega), List.take_add_one, hk, sum_append]
    unfold at0
    rw [List.getD_eq_getElem?_getD, hk]
    simp
theorem fallen_eq {rain : List Int} (hn : 1 ≤ rain.length) (T : Nat) : sumR T (fun t => at0 rain (t % rain.length)) = ((T / rain.length : Nat) : Int) * rain.sum + (rain.take (T % rain.length)).sum := by
  have part : ∀ r k, k ≤ rain.length → sumR (r * rain.length + k) (fun t => at0 rain (t % rain.length)) = sumR (r * rain.length) (fun t => at0 rain (t % rain.length)) + (rain.take k).sum := by
    intro r k hk
    rw [sumR_app, ← sum_take rain k hk]
    congr 1
    apply sumR_congr
    intro j hj
    rw [Nat.add_comm, Nat.add_mul_mod_self_right, Nat.mod_eq_of_lt (by omega)]
  have whole : ∀ r, sumR (r * rain.length) (fun t => at0 rain (t % rain.length)) = (r : Int) * rain.sum := by
    intro r
    induction r with
    | zero => simp [sumR]
    | succ r ih =>
      rw [Nat.add_mul, Nat.one_mul, part r rain.length (Nat.le_refl _), ih, List.take_length]
      have : ((r + 1 : Nat) : Int) = (r : Int) + 1 := by omega
      rw [this, Int.add_mul, Int.one_mul]
  have e : T = T / rain.length * rain.length + T % rain.length := by rw [Nat.mul_comm]; exact (Nat.div_add_mod T rain.length).symm
  have h := part (T / rain.length) (T % rain.length) (Nat.le_of_lt (Nat.mod_lt _ hn))
  rw [← e, whole] at h
  exact h
/-! ### rounds held against each other -/
def lvD (rain : List Int) (bs : List Bar) (t : Nat) : PyData := .list ((List.range bs.length).map fun i => .int (colAt rain bs i t).lv)
def clD (rain : List Int) (bs : List Bar) (t : Nat) : PyData := .list ((List.range bs.length).map fun i => .list [.int (colAt rain bs i t).dr, .int (colAt rain bs i t).ms, .int (colAt rain bs i t).ov])
def rowD (rain : List Int) (bs : List Bar) (T q : Nat) : PyData := if q % 2 = 0 then lvD rain bs (T + q / 2) else clD rain bs (T + q / 2)
def roundD (rain : List Int) (bs : List Bar) (T : Nat) : PyData := .list ((List.range (2 * rain.length)).map (rowD rain bs T))
theorem roundD_same {rain : List Int} {bs : List Bar} {S q : Nat} (h : Still rain bs S) (hq : S ≤ q) : roundD rain bs (q * rain.length) = roundD rain bs (S * rain.length) := by
  obtain ⟨k, rfl⟩ : ∃ k, q = S + k := ⟨q - S, by omega⟩
  have hc : ∀ i, i < bs.length → ∀ j, colAt rain bs i ((S + k) * rain.length + j) = colAt rain bs i (S * rain.length + j) := fun i hi j => by
    rw [show (S + k) * rain.length + j = S * rain.length + j + k * rain.length by rw [Nat.add_mul]; omega, (still_far h hi j k).2]
  unfold roundD
  congr 1
  apply List.map_congr_left
  intro q _
  unfold rowD lvD clD
  split
  · congr 1
    apply List.map_congr_left
    intro i hi
    rw [hc i (List.mem_range.mp hi)]
  · congr 1
    apply List.map_congr_left
    intro i hi
    rw [hc i (List.mem_range.mp hi)]
theorem eqvAll_get : ∀ {xs ys : List PyData}, PyData.eqvAll xs ys = true → ∀ {i : Nat} {x y : PyData}, xs[i]? = some x → ys[i]? = some y → PyData.eqv x y = true
  | [], _, _, i, x, y, hx, _ => by simp at hx
  | _ :: _, [], _, i, x, y, _, hy => by simp at hy
  | a :: xs, b :: ys, h, i, x, y, hx, hy => by
    rw [PyData.eqvAll, Bool.and_eq_true_iff] at h
    cases i with
    | zero => cases Option.some.inj hx; cases Option.some.inj hy; exact h.1
    | succ i => exact eqvAll_get h.2 hx hy
theorem eqv_int {a b : Int} (h : PyData.eqv (.int a) (.int b) = true) : a = b := by
  rw [PyData.eqv] at h
  exact eq_of_beq h
theorem eqv_list {xs ys : List PyData} (h : PyData.eqv (.list xs) (.list ys) = true) : PyData.eqvAll xs ys = true := by
  rw [PyData.eqv] at h
  exact h
theorem range_at {α : Type} {n i : Nat} {f : Nat → α} (h : i < n) : ((List.range n).map f)[i]? = some (f i) := by
  rw [List.getElem?_map, List.getElem?_range h]
  rfl
/-- equal rounds behind each other: the first is still -/
theorem roundD_still {rain : List Int} {bs : List Bar} {r : Nat} (hn : 1 ≤ rain.length) (h : PyData.eqv (roundD rain bs (r * rain.length)) (roundD rain bs ((r + 1) * rain.length)) = true) : Still rain bs r := by
  have h := eqv_list h
  have hq : ∀ q, q < 2 * rain.length → PyData.eqv (rowD rain bs (r * rain.length) q) (rowD rain bs ((r + 1) * rain.length) q) = true := fun q hq => eqvAll_get h (range_at hq) (range_at hq)
  have hl := hq 0 (by omega)
  have hc := hq 1 (by omega)
  have e0 : ∀ T, rowD rain bs T 0 = lvD rain bs T := fun T => rfl
  have e1 : ∀ T, rowD rain bs T 1 = clD rain bs T := fun T => rfl
  rw [e0, e0] at hl
  rw [e1, e1] at hc
  have hl := eqv_list hl
  have hc := eqv_list hc
  have key : ∀ i, i < bs.length → (colAt rain bs i (r * rain.length)).lv = (colAt rain bs i ((r + 1) * rain.length)).lv ∧ (colAt rain bs i (r * rain.length)).dr = (colAt rain bs i ((r + 1) * rain.length)).dr ∧ (colAt rain bs i (r * rain.length)).ov = (colAt rain bs i ((r + 1) * rain.length)).ov := by
    intro i hi
    have a := eqv_int (eqvAll_get hl (range_at hi) (range_at hi))
    have b := eqv_list (eqvAll_get hc (range_at hi) (range_at hi))
    exact ⟨a, eqv_int (eqvAll_get b (i := 0) rfl rfl), eqv_int (eqvAll_get b (i := 2) rfl rfl)⟩
  intro i hi
  have hb : bs[i]? = some bs[i] := List.getElem?_eq_getElem hi
  have hov : ovAbove rain bs i (r * rain.length) = ovAbove rain bs i ((r + 1) * rain.length) := by
    cases i with
    | zero => rfl
    | succ j => exact (key j (by omega)).2.2
  have s1 := tick_bal bs[i].cap (bef (colAt rain bs i) (r * rain.length)) (at0 rain (r * rain.length % rain.length) * bs[i].roof + ovAbove rain bs i (r * rain.length)) (at0 bs[i].draws (r * rain.length % rain.length))
  have s2 := tick_bal bs[i].cap (bef (colAt rain bs i) ((r + 1) * rain.length)) (at0 rain ((r + 1) * rain.length % rain.length) * bs[i].roof + ovAbove rain bs i ((r + 1) * rain.length)) (at0 bs[i].draws ((r + 1) * rain.length % rain.length))
  rw [← colAt_step _ hb] at s1 s2
  obtain ⟨k1, k2, k3⟩ := key i hi
  rw [Nat.mul_mod_left] at s1 s2
  omega
end Bk
set_option maxRecDepth 10000
namespace Bk
/-! ### what is missed falls from round to round -/
theorem ms_nonneg {rain : List Int} {bs : List Bar} {i : Nat} {b : Bar} (hb : bs[i]? = some b) (t : Nat) : 0 ≤ (colAt rain bs i t).ms := by
  rw [colAt_step t hb]
  exact tick_ms _ _ _ _
theorem ov_up {rain : List Int} {bs : List Bar} (i : Nat) (hi : i < bs.length) (t : Nat) : (colAt rain bs i t).ov ≤ (colAt rain bs i (t + rain.length)).ov := by
  have key : ∀ (bs : List Bar) (ov : Nat → Int), (∀ t, ov t ≤ ov (t + rain.length)) → ∀ c ∈ colsF rain ov bs, ∀ t, (c t).ov ≤ (c (t + rain.length)).ov := by
    intro bs
    induction bs with
    | nil => intro ov _ c h; cases h
    | cons b bs ih =>
      intro ov hov c h
      rcases List.mem_cons.mp h with e | m
      · rw [e]; exact fun t => (colB_mono hov t).2
      · exact ih _ (fun t => (colB_mono hov t).2) c m
  exact key bs _ (fun _ => Int.le_refl _) _ (List.mem_of_getElem? (colAt_get hi)) t
theorem ovA_up {rain : List Int} {bs : List Bar} {i : Nat} (hi : i < bs.length) (t : Nat) : ovAbove rain bs i t ≤ ovAbove rain bs i (t + rain.length) := by
  cases i with
  | zero => exact Int.le_refl _
  | succ i => exact ov_up i (by omega) t
theorem tick_ms3 {cap l l' w w' q : Int} (h1 : l ≤ l') (h2 : w ≤ w') : (tickB cap l' w' q).ms ≤ (tickB cap l w q).ms := by
  unfold tickB
  simp only
  split <;> split <;> split <;> split <;> omega
theorem ms_down {rain : List Int} {bs : List Bar} {i : Nat} (hi : i < bs.length) (t : Nat) : (colAt rain bs i (t + rain.length)).ms ≤ (colAt rain bs i t).ms := by
  have hb : bs[i]? = some bs[i] := List.getElem?_eq_getElem hi
  rw [colAt_step (t + rain.length) hb, colAt_step t hb, Nat.add_mod_right]
  have h1 := cols_mono rain bs _ (List.mem_of_getElem? (colAt_get hi)) t
  have h2 := ovA_up (rain := rain) hi t
  exact tick_ms3 h1 (by omega)
theorem ms_downs {rain : List Int} {bs : List Bar} {i : Nat} (hi : i < bs.length) (t : Nat) : ∀ k, (colAt rain bs i (t + k * rain.length)).ms ≤ (colAt rain bs i t).ms
  | 0 => by rw [Nat.zero_mul, Nat.add_zero]; exact Int.le_refl _
  | k + 1 => by
    have := ms_down (rain := rain) hi (t + k * rain.length)
    have ih := ms_downs (rain := rain) hi t k
    rw [show t + (k + 1) * rain.length = t + k * rain.length + rain.length by rw [Nat.add_mul, Nat.one_mul]; omega]
    omega
/-- nothing missed till the end of the next round: nothing ever -/
theorem ms_never {rain : List Int} {bs : List Bar} {i T : Nat} (hi : i < bs.length) (hn : 1 ≤ rain.length) (h : ∀ t, T ≤ t → t < T + (2 * rain.length - T % rain.length) → ¬ 0 < (colAt rain bs i t).ms) : ∀ t, T ≤ t → (colAt rain bs i t).ms = 0 := by
  intro t ht
  have h0 := ms_nonneg (rain := rain) (List.getElem?_eq_getElem hi) t
  by_cases hlt : t < T + (2 * rain.length - T % rain.length)
  · have := h t ht hlt
    omega
  · have hm := Nat.mod_lt T hn
    have hd := Nat.div_add_mod T rain.length
    have hdt := Nat.div_add_mod t rain.length
    have hmt := Nat.mod_lt t hn
    generalize T / rain.length = a at hd
    generalize t / rain.length = c at hdt
    -- t lies in round c ≥ a + 2; go back to round a + 1
    have hca : a + 1 ≤ c := by
      apply Classical.byContradiction
      intro hc
      have : rain.length * c ≤ rain.length * a := Nat.mul_le_mul_left _ (by omega)
      omega
    obtain ⟨k, rfl⟩ : ∃ k, c = a + 1 + k := ⟨c - (a + 1), by omega⟩
    have e : t = (rain.length * (a + 1) + t % rain.length) + k * rain.length := by
      have : rain.length * (a + 1 + k) = rain.length * (a + 1) + k * rain.length := by rw [Nat.mul_add, Nat.mul_comm rain.length k]
      omega
    have h1 : rain.length * (a + 1) = rain.length * a + rain.length := Nat.mul_succ _ _
    have := h (rain.length * (a + 1) + t % rain.length) (by omega) (by omega)
    have h2 := ms_downs (rain := rain) hi (rain.length * (a + 1) + t % rain.length) k
    rw [← e] at h2
    omega
end Bk
set_option maxRecDepth 10000
namespace Bk
/-! ### a barrel without a roof left out: no less is lost -/
/-- what leaves the last barrel -/
def loF (rain : List Int) : (Nat → Int) → List Bar → Nat → Int
  | ov, [] => ov
  | ov, b :: bs => loF rain (fun t => (colB rain b ov t).ov) bs
theorem colB_ovs {rain : List Int} {b : Bar} {ov ov' : Nat → Int} (h : ∀ t, ov t ≤ ov' t) (t : Nat) : (colB rain b ov t).ov ≤ (colB rain b ov' t).ov :=
  (colF_le (cap := b.cap) (ws := fun t => at0 b.draws (t % rain.length)) (fl := fun t => at0 rain (t % rain.length) * b.roof + ov t) (fl' := fun t => at0 rain (t % rain.length) * b.roof + ov' t) (fun t => by have := h t; omega) t).2.1
theorem loF_mono {rain : List Int} : ∀ (bs : List Bar) (ov ov' : Nat → Int), (∀ t, ov t ≤ ov' t) → ∀ t, loF rain ov bs t ≤ loF rain ov' bs t
  | [], _, _, h, t => h t
  | b :: bs, _, _, h, t => loF_mono bs _ _ (fun t => colB_ovs h t) t
theorem tick_ov_le {cap l w q : Int} (h : l ≤ cap) (hw : 0 ≤ w) : (tickB cap l w q).ov ≤ w := by
  unfold tickB
  simp only
  split <;> omega
theorem loF_erase {rain : List Int} : ∀ (bs : List Bar) (ov : Nat → Int) (k : Nat) (b : Bar), (∀ b ∈ bs, 0 ≤ b.cap ∧ (∀ d ∈ b.draws, 0 ≤ d) ∧ 0 ≤ b.roof) → (∀ r ∈ rain, 0 ≤ r) → (∀ t, 0 ≤ ov t) → bs[k]? = some b → b.roof = 0 → ∀ t, loF rain ov bs t ≤ loF rain ov (bs.eraseIdx k) t
  | [], _, _, _, _, _, _, h, _, _ => by simp at h
  | b0 :: bs, ov, 0, b, hb, hr, ho, h, h0, t => by
    cases (Option.some.inj h : b0 = b)
    show loF rain (fun t => (colB rain b0 ov t).ov) bs t ≤ loF rain ov bs t
    refine loF_mono bs _ _ (fun t => ?_) t
    have hb0 := hb b0 List.mem_cons_self
    rw [bef_col, h0]
    have h1 := bef_le (rain := rain) (b := b0) (ov := ov) hb0.1 hb0.2.1 t
    have := ho t
    refine Int.le_trans (tick_ov_le h1 (by omega)) (by omega)
  | b0 :: bs, ov, k + 1, b, hb, hr, ho, h, h0, t => by
    show loF rain (fun t => (colB rain b0 ov t).ov) bs t ≤ loF rain (fun t => (colB rain b0 ov t).ov) (bs.eraseIdx k) t
    refine loF_erase bs _ k b (fun b hb' => hb b (List.mem_cons_of_mem _ hb')) hr (fun t => ?_) h h0 t
    rw [bef_col]
    unfold tickB
    simp only
    split <;> omega
theorem loF_last {rain : List Int} : ∀ (bs : List Bar) (ov : Nat → Int) (c : Nat → T4), 1 ≤ bs.length → (colsF rain ov bs)[bs.length - 1]? = some c → ∀ t, loF rain ov bs t = (c t).ov
  | [], _, _, h, _, _ => by simp at h
  | [b], ov, c, _, h, t => by
    cases (Option.some.inj h : colB rain b ov = c)
    rfl
  | b :: b' :: bs, ov, c, _, h, t => loF_last (b' :: bs) _ c (by simp) h t
/-- the loss in each tick -/
theorem lost_erase {rain : List Int} {bs : List Bar} (ok : RowOk rain bs) {k : Nat} {b : Bar} (hb : bs[k]? = some b) (h0 : b.roof = 0) (h2 : 2 ≤ bs.length) (t : Nat) : (colAt rain bs (bs.length - 1) t).ov ≤ (colAt rain (bs.eraseIdx k) ((bs.eraseIdx k).length - 1) t).ov := by
  have hk := (List.getElem?_eq_some_iff.mp hb).1
  have hle : (bs.eraseIdx k).length = bs.length - 1 := List.length_eraseIdx_of_lt hk
  have e1 := loF_last (rain := rain) bs (fun _ => 0) _ (by omega) (colAt_get (by omega)) t
  have e2 := loF_last (rain := rain) (bs.eraseIdx k) (fun _ => 0) _ (by omega) (colAt_get (by omega)) t
  rw [← e1, ← e2]
  exact loF_erase bs _ k b (fun b hb => by
    obtain ⟨o1, o2, o3, o4, o5, o6, o7⟩ := ok.bars b hb
    exact ⟨o3, fun d hd => (o7 d hd).1, o5⟩) (fun r hr => (ok.fall r hr).1) (fun _ => Int.le_refl _) hb h0 t
end Bk
set_option Elab.async false
set_option linter.all false
set_option maxRecDepth 100000
set_option maxHeartbeats 2000000
namespace Bk
open PySem PySem.Spec PyProof.Rows L2 LamX
/-! ### a lambda of one parameter, handed to a def as its third argument -/
structure Lam1 (N : List Str) (sc scope : Scope) (a : Str) (j : Nat) : Prop where
  kind : scope.kind = .function
  co : scope.isCoroutine = false
  gen : scope.isGenerator = false
  own : ∀ y ∈ scope.names, y.2 = .local → y.1 = a
  nocell : ∀ y ∈ scope.names, y.2 ≠ .cell
  par : scope.names.lookup a = some .local
  free : ∀ y ∈ scope.names, y.2 = .free → sc.names.lookup y.1 = some .cell ∨ sc.names.lookup y.1 = some .free
  slot : N[j]? = some a
  nd : N.Nodup
def lam1B (sc scope : Scope) (a : Str) : Bool :=
  decide (scope.kind = .function) && !scope.isCoroutine && !scope.isGenerator && decide (scope.names.lookup a = some .local) && scope.names.all fun y => (!decide (y.2 = .local) || decide (y.1 = a)) && !decide (y.2 = .cell) && (!decide (y.2 = .free) || decide (sc.names.lookup y.1 = some .cell) || decide (sc.names.lookup y.1 = some .free))
theorem lam1_by {N : List Str} {sc scope : Scope} {a : Str} {j : Nat} (hs : N[j]? = some a) (hd : N.Nodup) (h : lam1B sc scope a = true) : Lam1 N sc scope a j := by
  unfold lam1B at h
  simp only [Bool.and_eq_true, Bool.or_eq_true, Bool.not_eq_true', decide_eq_true_eq, decide_eq_false_iff_not, List.all_eq_true] at h
  obtain ⟨⟨⟨⟨h1, h2⟩, h3⟩, h5⟩, h4⟩ := h
  refine ⟨h1, h2, h3, fun y hy e => ?_, fun y hy => (h4 y hy).1.2, h5, fun y hy e => ?_, hs, hd⟩
  · rcases (h4 y hy).1.1 with z | z
    · exact absurd e z
    · exact z
  · rcases (h4 y hy).2 with (z | z) | z
    · exact absurd e z
    · exact .inl z
    · exact .inr z
theorem Lam1.has {X : Cx} {scope : Scope} {a : Str} {j : Nat} (L : Lam1 X.N X.env.scope scope a j) (ok : X.Ok) : ∀ y ∈ scope.names, y.2 = .free → ∃ c, X.env.cells.lookup y.1 = some c := fun y hy e => by
  rcases L.free y hy e with k | k
  · exact ok.has _ (.inl k)
  · exact ok.has _ (.inr k)
/-- the context of the lambda's body -/
def lamCx1 (X : Cx) (A : Around) (outer : List Env) (s : Shared) (H : Hp) (scope : Scope) (f c' : Addr) : Cx where
  prog := X.prog
  w := X.w
  K := X.K
  mg := X.mg
  base := X.base
  A := A.deeper (lamEnv X scope s.heap.objs.size f c')
  N := X.N
  s_0 := s
  H_0 := H
  env := lamEnv X scope s.heap.objs.size f c'
  outer := outer
  stack := lamEnv X scope s.heap.objs.size f c' :: outer
  ex := []
  fn := fun _ => false
  calm := true
  pn := []
  xe := fun _ _ => False
section
variable {X : Cx} {pins : List (Addr × Obj)} {σ : L2.St} {H HZ : Hp} {s s1 : Shared}
theorem lam_start1 {A : Around} {outer : List Env} {scope : Scope} {f c' : Addr} {h₁ : Heap} {tk : Nat} {a : Str} {j : Nat} {v : V} {u : Value} (I : Inv X pins σ H s) (L : Lam1 X.N X.env.scope scope a j) (e0 : Env0 X.prog X.w X.K X.mg X.base A outer s1 HZ) (hd : A.handled = none)
    (un : Un (frs X.stack) [] H HZ s.heap s1.heap) (hns : h₁.Ns s1.heap.objs.size fun y => ([(a, u)] : List (Str × Value)).reverse.lookup y) (kp : ∀ b o, s1.heap.get? b = some o → h₁.get? b = some o) (rv : RelV v u) :
    Inv (lamCx1 X A outer s1 HZ scope f c') [] (σ.set j (some v)) HZ { s1 with heap := h₁, toks := tk } := by
  have hfree := L.has I.ok
  have cm : ∀ {y c}, (cloFrom X.env.cells scope.names []).lookup y = some c → X.env.cells.lookup y = some c := fun {y c} e => by
    rcases cloFrom_mem (PySem.mem_of_lookup e) with hm | ⟨h1, h2⟩
    · cases hm
    · obtain ⟨c1, hc⟩ := hfree _ h1 rfl
      have hc : X.env.cells.lookup y = some c1 := hc
      have e2 : c = c1 := by
        rw [h2, hc] <;> rfl
      rw [e2]
      exact hc
  have look : ∀ {y}, scope.names.lookup y = some .free → ∃ c, (cloFrom X.env.cells scope.names []).lookup y = some c := fun {y} hl => by
    have hy : (y, NameKind.free) ∈ scope.names := PySem.mem_of_lookup hl
    exact mem_lookup (cloFrom_has (cells := X.env.cells) (acc := []) hy)
  have cellK : ∀ {c : Addr} {v : Option Value}, H c = none → s.heap.IsCell c v → h₁.IsCell c v := fun {c v} n ⟨o, ho, hd⟩ => by
    obtain ⟨sl, q⟩ := un.any ho n (by simp)
    exact ⟨_, kp _ _ q, hd⟩
  have noA : ∀ b : Addr, b ∉ (lamCx1 X A outer s1 HZ scope f c').ex := fun b z => absurd (show b ∈ ([] : List Addr) from z) (by simp)
  refine ⟨⟨e0.mod, L.kind, rfl, rfl, Nat.le_refl _, fun y z c e1 e2 => I.ok.inj y z c (cm e1) (cm e2), fun y hy => ?_, fun y c z _ => ?_, fun _ => hd, Around.frames_deeper e0.frames, .inr ⟨rfl, rfl⟩, fun b z => absurd z (noA b), e0.bs, e0.bsz, fun b _ _ => noA b,
      fun b z => absurd z (noA b), e0.funs, e0.frf⟩,
    rfl, e0.bare, Un.kept kp, ⟨_, hns, fun i y v' e1 e2 e3 => ?_⟩, fun y c e => ?_, e0.hok.fresh (Nat.le_refl _), fun y c e => ?_, fun q hq => absurd (show q ∈ ([] : List (Addr × Obj)) ++ [] from hq) (by simp), e0.hok.kept kp, ?_⟩
  · have hy : scope.names.lookup y = some .cell ∨ scope.names.lookup y = some .free := hy
    rcases hy with hy | hy
    · exact absurd rfl (L.nocell _ (PySem.mem_of_lookup hy))
    · exact look hy
  · have z : false = true := z
    cases z
  · have e1 : X.N[i]? = some y := e1
    have e3 : Vis scope y := e3
    rcases e3 with k | k | k
    · -- the parameter
      have ey : y = a := L.own _ (PySem.mem_of_lookup k) rfl
      subst ey
      have hij : i = j := nd_ix L.nd e1 L.slot
      subst hij
      have hlen : i < σ.length := by
        have := (List.getElem?_eq_some_iff.mp e2).1
        rw [List.length_set] at this
        exact this
      rw [List.getElem?_set_self hlen] at e2
      cases Option.some.inj (Option.some.inj e2)
      refine ⟨u, rv, .inl ⟨k, ?_⟩⟩
      show ([(y, u)] : List (Str × Value)).reverse.lookup y = some u
      simp
    · exact absurd rfl (L.nocell _ (PySem.mem_of_lookup k))
    · have hne : y ≠ a := fun e => by
        rw [e, L.par] at k
        cases k
      have hij : j ≠ i := fun e => hne (by
        subst e
        rw [L.slot] at e1
        exact (Option.some.inj e1).symm)
      rw [List.getElem?_set_ne hij] at e2
      obtain ⟨m, hn, hl⟩ := I.loc
      have hvis : Vis X.env.scope y := (L.free _ (PySem.mem_of_lookup k) rfl).elim (fun k => .inr (.inl k)) (fun k => .inr (.inr k))
      obtain ⟨w', r, q⟩ := hl i y v' e1 e2 hvis
      obtain ⟨c2, h2⟩ := look k
      refine ⟨w', r, .inr ⟨.inr k, c2, h2, ?_⟩⟩
      have c1 := cm h2
      rcases q with ⟨k', _⟩ | ⟨_, c3, e', z⟩
      · have k' : X.env.scope.names.lookup y = some .local := k'
        rcases L.free _ (PySem.mem_of_lookup k) rfl with k2 | k2 <;> rw [show X.env.scope.names.lookup y = _ from k2] at k' <;> cases k'
      · rw [c1] at e'
        cases e'
        exact cellK (I.freeC y _ c1) z
  · obtain ⟨w', z⟩ := I.cell y c (cm e)
    exact ⟨w', cellK (I.freeC y c (cm e)) z⟩
  · obtain ⟨v, o, ho, hd⟩ := I.cell y c (cm e)
    exact un.free c o ho (I.freeC y c (cm e)) (by simp)
  · rw [List.length_set]
    exact I.len
/-- b(e), in the def that got the lambda as b -/
theorem pe_act1 {Ng : List Str} {qg : Str} {sg : Scope} {g f c' : Addr} {cdg pm ctv : Value} {params : Arguments} {body e : Expr} {scope : Scope} {k i j : Nat} {a b : Str} {tb ta : TE} {p1 p2 : Pos}
    (I : Inv X pins σ H s) (L : Lam1 X.N X.env.scope scope a j) (hf : s.heap.get? f = some (PySem.W.kla_obj "<lambda>" (X.env.qual ++ "<lambda>") params body scope (cloFrom X.env.cells scope.names []) pm c' ctv)) (hfn : H f = none) (hfr : f ∉ frs X.stack)
    (hbind : ∀ u : Value, bindArgs (PySem.W.kla_fn "<lambda>" (X.env.qual ++ "<lambda>") params body scope (cloFrom X.env.cells scope.names []) pm (.ref c') ctv) ⟨[u], []⟩ = pure [(a, u)])
    (hr : Room (k + 1) (X.A.deeper (envOfC qg sg s.heap.objs.size g cdg)))
    (hbody : ∀ (A : Around) (outer : List Env) (s : Shared) (H : Hp), Room k (A.deeper (lamEnv X scope s.heap.objs.size f c')) → PE (lamCx1 X A outer s H scope f c') body tb)
    (hN : Ng[i]? = some b) (hv : Vis sg b) (harg : PE (cxOf CX0 X.prog X.w X.K X.mg X.base Ng qg sg g cdg X.A X.stack s H E0).nox e ta) (hd : (b == ("__debug__" : Str)) = false := by decide) (hcd : (b == ("__classdict__" : Str)) = false := by decide)
    (he : starEach [e] (envOfC qg sg s.heap.objs.size g cdg) = (false, eval e (envOfC qg sg s.heap.objs.size g cdg)) :: starEach [] (envOfC qg sg s.heap.objs.size g cdg) := by rfl) :
    PE (cxOf CX0 X.prog X.w X.K X.mg X.base Ng qg sg g cdg X.A X.stack s H E0).nox (.Call (.Name b p1) [e] [] p2)
      (fun σZ HZ Q => σZ[i]? = some (some (.ref f)) ∧ ta σZ HZ fun v H' => H' c' = some (CodeO c' (X.env.qual ++ "<lambda>")) ∧ tb (σ.set j (some v)) H' Q) := by
  refine ⟨fun pinsZ sZ σZ HZ Q IZ h => ?_⟩
  obtain ⟨hs, ht⟩ := h
  refine wpAny_Call_Name_kw (thn ((pe_var (pos := p1) (i := i) hN hv hd hcd).run pinsZ sZ σZ HZ (fun v H1 => v = .ref f ∧ H1 = HZ) IZ ⟨.ref f, hs, rfl, rfl⟩) fun u s1 ⟨v, H1, I1, r1, q1⟩ => ?_)
  obtain ⟨ev, eH⟩ := q1
  subst ev
  rw [eH] at I1
  obtain rfl : u = Value.ref f := r1
  have of1 : s1.heap.get? f = some (PySem.W.kla_obj "<lambda>" (X.env.qual ++ "<lambda>") params body scope (cloFrom X.env.cells scope.names []) pm c' ctv) := I1.base.keep f _ hf hfn hfr (fun z => nomatch (show f ∈ ([] : List Addr) from z))
  refine PySem.W.callWith_F ⟨_, _, _, _, of1⟩ ?_ he rfl
  show wpAny _ _ (spliced (backTo p2 (starEach [e] (envOfC qg sg s.heap.objs.size g cdg)))) _ _ s1
  rw [he]
  refine Calls.spliced_cons (thn (harg.run pinsZ s1 σZ HZ _ I1 ht) fun u2 s2 ⟨v2, H2, I2, r2, hc, hb2⟩ => ?_)
  have of2 : s2.heap.get? f = some (PySem.W.kla_obj "<lambda>" (X.env.qual ++ "<lambda>") params body scope (cloFrom X.env.cells scope.names []) pm c' ctv) := I2.base.keep f _ hf hfn hfr (fun z => nomatch (show f ∈ ([] : List Addr) from z))
  refine Calls.spliced_nil ⟨⟨_, _, _, _, of2⟩, ?_⟩
  have un : Un (frs X.stack) [] H H2 s.heap s2.heap := I2.base
  obtain ⟨⟨oc, vs, t, hoc, hdc, hvc⟩, _, _⟩ := I2.hok c' _ hc
  have rc : codeAny (model X.prog X.w) (X.A.deeper (envOfC qg sg s.heap.objs.size g cdg)) (.call (.ref f) ⟨[u2], []⟩) (CR CX0 (envOfC qg sg s.heap.objs.size g cdg :: X.stack) X.prog X.w H2 s2 Q E0) s2 := by
    refine PySem.W.kla_callFunE hr.depth of2 rfl L.co L.gen rfl ⟨c', oc, vs, t, rfl, hoc, hdc, hvc⟩ ?_
    rw [hbind]
    refine wpAny_pure (wpAny_newFunctionEnv L.nocell (fun y hy => ?_) (fun h₁ hns hsb => ⟨I2.nolimit.fresh _ hsb, ?_⟩) L.kind)
    · obtain rfl : y = (a, u2) := by simpa using hy
      exact L.par
    show codeAny _ _ (.expr body (lamEnv X scope s2.heap.objs.size f c')) _ _
    have kp : ∀ b o, s2.heap.get? b = some o → h₁.get? b = some o := fun b o e => hsb.extBut b o (Nat.ne_of_lt (Heap.lt_size e)) (Heap.get?_push_of_some _ e)
    have J : Inv (lamCx1 X (X.A.deeper (envOfC qg sg s.heap.objs.size g cdg)) (envOfC qg sg s.heap.objs.size g cdg :: X.stack) s2 H2 scope f c') [] (σ.set j (some v2)) H2 { s2 with heap := h₁, toks := s2.toks + ([(a, u2)] : List (Str × Value)).length } :=
      lam_start1 I L I2.env0 hr.hd un hns kp r2
    refine PySem.W.kla_codeExpr (wpAny_mono ((hbody _ _ s2 H2 (hr.deeper _)).run [] _ _ H2 Q J hb2) (fun v s' hq => ?_) fun e s' hq => (show False from hq).elim)
    obtain ⟨w', H', J', rv, q⟩ := hq
    exact ⟨w', H', J'.os, J'.bare, J'.base, J'.hok, rv, q⟩
  refine wpAny_call (codeAny_mono rc fun r s' hq => ?_)
  cases r with
  | error e => exact (show False from hq).elim
  | ok fl =>
    cases fl with
    | ret u => exact I2.after hq
    | next => exact False.elim hq
    | brk => exact False.elim hq
    | cont => exact False.elim hq
/-- the def that calls what it got as its third argument; TT: what it makes of two values and the lambda's reading -/
def Gives3 (X : Cx) (Ng : List Str) (x : Str) (sg : Scope) (g : Addr) (cdg : Value) (bg : List Stmt) (b : Str) (TT : V → V → (Hp → Prop) → (V → Hp → VK → Prop) → Hp → VK → Prop) : Prop :=
  ∀ (f c' : Addr) (q : Str) (s : Shared) (H : Hp) (Q : VK) (v1 v2 : V) (tl : V → Hp → VK → Prop),
    (∀ (e : Expr) (ta : TE) (p1 p2 : Pos), PE (cxOf CX0 X.prog X.w X.K X.mg X.base Ng x sg g cdg X.A X.stack s H E0).nox e ta →
      (starEach [e] (envOfC x sg s.heap.objs.size g cdg) = (false, eval e (envOfC x sg s.heap.objs.size g cdg)) :: starEach [] (envOfC x sg s.heap.objs.size g cdg)) →
      PE (cxOf CX0 X.prog X.w X.K X.mg X.base Ng x sg g cdg X.A X.stack s H E0).nox (.Call (.Name b p1) [e] [] p2) (fun σZ HZ Q => σZ[2]? = some (some (.ref f)) ∧ ta σZ HZ fun v H' => H' c' = some (CodeO c' q) ∧ tl v H' Q)) →
    TT v1 v2 (fun H' => H' c' = some (CodeO c' q)) tl H Q →
    ∃ t, PSs (cxOf CX0 X.prog X.w X.K X.mg X.base Ng x sg g cdg X.A X.stack s H E0).nox bg t ∧ t { nx := fun _ H' => Q .non H', rt := Q } (L2.start Ng [v1, v2, .ref f]) H
def tLam3 (T : List (Addr × Str)) (TT : V → V → (Hp → Prop) → (V → Hp → VK → Prop) → Hp → VK → Prop) (j : Nat) (t1 t2 t : TE) : TE := fun σ H Q => t1 σ H fun v1 H1 => t2 σ H1 fun v2 H2 => Tabs T H2 ∧ ∀ (c' : Addr) (q : Str) (H3 : Hp), ExtN H2 H3 → Tabs T H3 → H3 c' = some (CodeO c' q) → TT v1 v2 (fun H' => H' c' = some (CodeO c' q)) (fun v H' Q' => t (σ.set j (some v)) H' Q') H3 Q
section
variable {X : Cx}
/-- x(e1, e2, lambda a: body) -/
theorem pe_lamcall3 {T : List (Addr × Str)} {TT : V → V → (Hp → Prop) → (V → Hp → VK → Prop) → Hp → VK → Prop} {x a b a1 a2 : Str} {g c P : Addr} {k j : Nat} {pg : Arguments} {bg : List Stmt} {sg : Scope} {dV kV doc pm cdv ct oc : Value} {an od : Option Addr} {osl : Array (Option Value)} {Ng : List Str}
    {params : Arguments} {body e1 e2 : Expr} {scope : Scope} {t1 t2 t : TE} {p lpos pos : Pos} (hg : Gl X x) (hm : X.mg x = some (.ref g)) (hk : PySem.W.keepIn X.K (.ref g) = true)
    (lk : X.K.lookup g = some ⟨oc, od, .func (PySem.W.fnOf x x pg bg sg dV kV doc pm an cdv ct), osl⟩) (hcg : PySem.W.codeIn X.K cdv x = true) (hb : L2.Binds X.K (PySem.W.fnOf x x pg bg sg dV kV doc pm an cdv ct) [a1, a2, b] []) (Sg : FnScope Ng [a1, a2, b] sg) (hNg : Ng[2]? = some b) (hva : Vis sg b)
    (hG : Gives3 X Ng x sg g cdv bg b TT)
    (TB : TabB X.base X.mg c P) (hcode : X.env.code = .ref c) (hmT : (P, X.env.qual ++ "<lambda>") ∈ T) (hu : ∀ p ∈ T, p.1 = P → p.2 = X.env.qual ++ "<lambda>") (hr : Room (k + 2) X.A) (L : Lam1 X.N X.env.scope scope a j) (h1 : PE X e1 t1) (h2 : PE X e2 t2) (hdef : defaultsOf params X.env = ([], []))
    (hbind : ∀ (q : Str) (cl : List (Str × Addr)) (pm cv ctv u : Value), bindArgs (PySem.W.kla_fn "<lambda>" q params body scope cl pm cv ctv) ⟨[u], []⟩ = pure [(a, u)])
    (hbody : ∀ (A : Around) (outer : List Env) (s : Shared) (H : Hp) (f c' : Addr), Room k (A.deeper (lamEnv X scope s.heap.objs.size f c')) → PE (lamCx1 X A outer s H scope f c') body t)
    (hdb : (x == ("__debug__" : Str)) = false := by decide) (hd : (b == ("__debug__" : Str)) = false := by decide) (hcd : (b == ("__classdict__" : Str)) = false := by decide)
    (he1 : starEach [e1, e2, .Lambda params body scope lpos] X.env = (false, eval e1 X.env) :: starEach [e2, .Lambda params body scope lpos] X.env := by rfl) (he2 : starEach [e2, .Lambda params body scope lpos] X.env = (false, eval e2 X.env) :: starEach [.Lambda params body scope lpos] X.env := by rfl)
    (hpl : (backTo pos (starEach [e2, .Lambda params body scope lpos] X.env)).any (·.1) = false := by rfl) :
    PE X (.Call (.Name x p) [e1, e2, .Lambda params body scope lpos] [] pos) (tLam3 T TT j t1 t2 t) := by
  refine ⟨fun pins s σ H Q I h => ?_⟩
  refine wpAny_Call_Name_kw (ld_glob I hg hm ?_ hdb)
  refine PySem.W.callWith_K (h₀ := X.base) I.ok.mod.kin hk ?_ he1 hpl
  show wpAny _ _ (spliced (backTo pos (starEach [e1, e2, .Lambda params body scope lpos] X.env))) _ _ s
  rw [he1]
  refine Calls.spliced_cons (thn (h1.run pins s σ H _ I h) fun u1 s1 ⟨v1, H1, I1, r1, h⟩ => ?_)
  show wpAny _ _ (spliced (backTo pos (starEach [e2, .Lambda params body scope lpos] X.env))) _ _ s1
  rw [he2]
  refine Calls.spliced_cons (thn (h2.run pins s1 σ H1 _ I1 h) fun u2 s2 ⟨v2, H2, I2, r2, hT, h⟩ => ?_)
  show wpAny _ _ (spliced ((false, eval (.Lambda params body scope lpos) X.env) :: backTo pos (starEach [] X.env))) _ _ s2
  refine Calls.spliced_cons (lam_make2 I2 TB hcode hmT hu hT hdef (L.has I2.ok) fun f c' pm' ctv H3 s' I3 eN T1 hf hfn hfr hco => ?_)
  refine Calls.spliced_nil ⟨I3.kIn, ?_⟩
  have rc : codeAny (model X.prog X.w) X.A (.call (.ref g) ⟨[u1, u2, .ref f], []⟩) (CR CX0 X.stack X.prog X.w H3 s' Q E0) s' := by
    refine run_ofS (N := Ng) (ps := [a1, a2, b]) (us := [u1, u2, .ref f]) (vs := [v1, v2, .ref f]) lk hcg Sg hr I3.env0 (hb s' [u1, u2, .ref f] I3.kIn rfl) (.cons r1 (.cons r2 (.cons rfl .nil))) rfl fun hr' => ?_
    obtain ⟨t', ht', hq'⟩ := hG f c' (X.env.qual ++ "<lambda>") s' H3 Q v1 v2 (fun v H' Q' => t (σ.set j (some v)) H' Q') (fun e ta p1 p2 he hst => pe_act1 (i := 2) I3 L hf hfn hfr (fun u => hbind _ _ _ _ _ u) hr' (fun A outer s H hr2 => hbody A outer s H f c' hr2) hNg hva he hd hcd hst) (h c' _ H3 eN T1 hco)
    exact ⟨t', ht'.nox, hq'⟩
  refine wpAny_call (codeAny_mono rc fun r s2 hq => ?_)
  cases r with
  | error e => exact (show False from hq).elim
  | ok fl =>
    cases fl with
    | ret u => exact I3.after hq
    | next => exact False.elim hq
    | brk => exact False.elim hq
    | cont => exact False.elim hq
end
end
end Bk
set_option Elab.async false
set_option linter.all false
set_option maxRecDepth 100000
namespace Bk
open PySem
/-! ### many rounds as one long round -/
def repL {α : Type} (k : Nat) (l : List α) : List α := (List.replicate k l).flatten
def repB (k : Nat) (b : Bar) : Bar := { b with draws := repL k b.draws }
theorem repL_length {α : Type} (k : Nat) (l : List α) : (repL k l).length = k * l.length := by
  unfold repL
  induction k with
  | zero => simp
  | succ k ih => rw [List.replicate_succ, List.flatten_cons, List.length_append, ih, Nat.succ_mul]; omega
theorem repL_succ {α : Type} (k : Nat) (l : List α) : repL (k + 1) l = l ++ repL k l := by
  unfold repL
  rw [List.replicate_succ, List.flatten_cons]
theorem at0_rep (l : List Int) : ∀ (k i : Nat), i < k * l.length → at0 (repL k l) i = at0 l (i % l.length)
  | 0, i, h => by omega
  | k + 1, i, h => by
    rw [repL_succ]
    unfold at0
    by_cases hi : i < l.length
    · rw [Nat.mod_eq_of_lt hi, List.getD_eq_getElem?_getD, List.getD_eq_getElem?_getD, List.getElem?_append_left hi]
    · have := at0_rep l k (i - l.length) (by rw [Nat.succ_mul] at h; omega)
      unfold at0 at this
      rw [List.getD_eq_getElem?_getD, List.getElem?_append_right (by omega), ← List.getD_eq_getElem?_getD, this]
      rw [← Nat.mod_eq_sub_mod (by omega)]
theorem at0_repm (l : List Int) {k : Nat} (hk : 1 ≤ k) (hl : 1 ≤ l.length) (t : Nat) : at0 (repL k l) (t % (repL k l).length) = at0 l (t % l.length) := by
  rw [repL_length, at0_rep l k _ (Nat.mod_lt _ (Nat.mul_pos hk hl)), Nat.mod_mul_left_mod]
theorem colB_rep {rain : List Int} {b : Bar} {k : Nat} (hk : 1 ≤ k) (hl : 1 ≤ rain.length) (hd : b.draws.length = rain.length) (ov : Nat → Int) : colB (repL k rain) (repB k b) ov = colB rain b ov := by
  unfold colB
  have e1 : (fun t => at0 (repL k rain) (t % (repL k rain).length) * (repB k b).roof + ov t) = fun t => at0 rain (t % rain.length) * b.roof + ov t := funext fun t => by
    rw [at0_repm rain hk hl]
    rfl
  have e2 : (fun t => at0 (repB k b).draws (t % (repL k rain).length)) = fun t => at0 b.draws (t % rain.length) := funext fun t => by
    have := at0_repm b.draws hk (by omega) t
    rw [repL_length, hd] at this
    rw [repL_length]
    exact this
  rw [e1, e2]
  rfl
theorem colsF_rep {rain : List Int} {k : Nat} (hk : 1 ≤ k) (hl : 1 ≤ rain.length) : ∀ (bs : List Bar) (ov : Nat → Int), (∀ b ∈ bs, b.draws.length = rain.length) → colsF (repL k rain) ov (bs.map (repB k)) = colsF rain ov bs
  | [], _, _ => rfl
  | b :: r, ov, h => by
    have e := colB_rep hk hl (h b List.mem_cons_self) ov
    show colB (repL k rain) (repB k b) ov :: colsF (repL k rain) (fun t => (colB (repL k rain) (repB k b) ov t).ov) (r.map (repB k)) = _
    rw [e, colsF_rep hk hl r _ fun b hb => h b (List.mem_cons_of_mem _ hb)]
    rfl
theorem cols_rep {rain : List Int} {bs : List Bar} {k : Nat} (hk : 1 ≤ k) (hl : 1 ≤ rain.length) (h : ∀ b ∈ bs, b.draws.length = rain.length) : cols (repL k rain) (bs.map (repB k)) = cols rain bs := colsF_rep hk hl bs _ h
/-- what passes in the long round -/
theorem pass_rep {rain : List Int} {bs : List Bar} {k : Nat} (hk : 1 ≤ k) (hl : 1 ≤ rain.length) (h : ∀ b ∈ bs, b.draws.length = rain.length) :
    passTicks (repL k rain) (bs.map (repB k)) (List.replicate bs.length 0) = pasAt rain bs 0 (k * rain.length) := by
  have e := passTicks_cols (rain := repL k rain) (bs := bs.map (repB k)) (T := 0) (k := (repL k rain).length) (Nat.le_refl _) (Nat.zero_mod _) (fun b hb => by
    obtain ⟨b0, h0, rfl⟩ := List.mem_map.mp hb
    show (repL k b0.draws).length = _
    rw [repL_length, repL_length, h b0 h0])
  rw [List.take_length, lvAt_zero, List.length_map, repL_length] at e
  rw [e]
  unfold pasAt
  rw [cols_rep hk hl h, List.zipWith_map_right]
  rfl
end Bk
set_option Elab.async false
set_option linter.all false
set_option maxRecDepth 100000
set_option maxHeartbeats 4000000
namespace Bk
open PySem PySem.Spec PyProof.Rows L2
def rLcm : List V → Hp → VK → Prop := fun vs H Q => ∃ a b : Int, vs = [.int a, .int b] ∧ a.natAbs < 2 ^ 64 ∧ b.natAbs < 2 ^ 64 ∧ Q (.int ((Nat.lcm a.natAbs b.natAbs : Nat) : Int)) H
theorem cr_lcm {X : Cx} : CallR X (.builtin "math.lcm") rLcm := by
  intro pins s σ H vs us Q I r h
  obtain ⟨a, b, rfl, ha, hb, q⟩ := h
  obtain ⟨t, u, rfl⟩ := Vals.int2 r
  exact PySem.W.mc_lcm ha hb fun _ => ⟨.int _, H, I.tok _, ⟨_, rfl⟩, q⟩
theorem tuple_mul1 (l : Addr) (items : Array Value) (n : Nat) (dd : Option Addr) (sl : Array (Option Value)) (u : Tok) :
    Meets (Builtin.«tuple.__mul__» ⟨[.ref l, .int 1 u], []⟩) (fun _ R s => s.heap.get? l = some { cls := .type "tuple", dict := dd, data := .seq items n, slots := sl } ∧ R (.ok (.ret (Value.ref l))) s) :=
  .of_wp fun prog w A R s h => by
    obtain ⟨hp, g, d, tk, os⟩ := s
    obtain ⟨hl, h⟩ := h
    have f1 := AutoSeq1.idx_int
    wp_walk using wpAny_loadPart' hl
    exact ⟨_, rfl, h⟩
/-- tuple * k: the tuple itself for k = 1, else a new one -/
def rRepW (K : PySem.W.Frag) : R2 := fun x y H Q => ∃ l k xs, x = .ref l ∧ y = .int k ∧ SqT K H l xs ∧ xs ≠ [] ∧ 1 ≤ k ∧ k ≤ 3000 ∧ xs.length ≤ 1000 ∧ (k = 1 → Q (.ref l) H) ∧ ∀ p, H p = none → Q (.ref p) (upd H p (.tup (List.replicate k.toNat xs).flatten))
theorem op_repW {X : Cx} : OpR X (binaryOp .Mult) (rRepW X.K) := by
  intro pins s σ H x y v u Q I rx ry h
  obtain ⟨l, k, xs, rfl, rfl, hT, hne, h1, h2, hz, q1, q⟩ := h
  cases rx
  obtain ⟨t, rfl⟩ := ry
  obtain ⟨its, r, ⟨⟨cls, dd, data, sl⟩, ho, hc, n, hd⟩, hs⟩ := I.tuple hT
  simp only at hc hd
  subst hc hd
  have hle : its.length = xs.length := r.length.symm
  have hn : its ≠ [] := fun e => hne (by
    rw [e] at hle
    exact List.eq_nil_of_length_eq_zero hle.symm)
  have hi : its.toArray.isEmpty = false := by
    cases its with
    | nil => exact absurd rfl hn
    | cons a b => rfl
  by_cases hk : k = 1
  · subst hk
    refine wpAny_binaryOp_repeat_ref (T := "tuple") (U := "int") (by decide) ⟨_, ho, rfl⟩ (fun s' => typeIs_int s' 1 t) noFill_tuple_mul F.fills_int_mul F.slot_int_rmul repeat_tuple F.slot_int_index.lookup
      (call_meets F.slot_int_rmul (typeIs_int s 1 t) F.entry_int_rmul (F.args_int_rmul_2 _ _) (int_rmul_tuple 1 t l its.toArray n dd sl)
        ⟨ho, rfl, ⟨_, ho, rfl⟩, call_meets F.slot_tuple_mul ⟨_, ho, rfl⟩ F.entry_tuple_mul (F.args_tuple_mul_2 _ _) (tuple_mul1 l its.toArray n dd sl t) ⟨ho, ?_⟩⟩)
    exact ⟨.ref l, H, I, rfl, q1 rfl⟩
  have hsz0 : its.toArray.size = xs.length := by rw [List.size_toArray, hle]
  have hm : ((its.toArray.size : Nat) : Int) * k ≤ 3000000 := by
    rw [hsz0]
    have a1 : ((xs.length : Nat) : Int) * k ≤ 1000 * k := Int.mul_le_mul_of_nonneg_right (by omega) (by omega)
    omega
  have flen : (List.replicate k.toNat its).flatten.length ≤ sizeLine := by
    rw [PyProof.Rows.lm_len_rep_flat, hle, sizeLine_eq]
    have a1 : k.toNat * xs.length ≤ 3000 * 1000 := Nat.mul_le_mul (by omega) hz
    omega
  have c0 : (decide (k < -(2 ^ 63)) || decide (k ≥ 2 ^ 63)) = false := by
    rw [decide_eq_false (by omega), decide_eq_false (by omega)] <;> rfl
  have c1 : (its.toArray.isEmpty || k == 1) = false := by
    rw [hi, Bool.false_or]
    exact beq_eq_false_iff_ne.mpr (by omega)
  have c2 : (decide (k ≤ 0) || its.toArray.isEmpty) = false := by
    rw [hi, Bool.or_false]
    exact decide_eq_false (by omega)
  have c4 : Builtin.Tuple.tupleTooMany (((its.toArray.size : Nat) : Int) * k) = false := by
    unfold Builtin.Tuple.tupleTooMany
    rw [sizeLine_eq]
    exact decide_eq_false (by omega)
  refine wpAny_binaryOp_repeat_ref (T := "tuple") (U := "int") (by decide) ⟨_, ho, rfl⟩ (fun s' => typeIs_int s' k t) noFill_tuple_mul F.fills_int_mul F.slot_int_rmul repeat_tuple F.slot_int_index.lookup
    (call_meets F.slot_int_rmul (typeIs_int s k t) F.entry_int_rmul (F.args_int_rmul_2 _ _) (int_rmul_tuple k t l its.toArray n dd sl)
      ⟨ho, rfl, ⟨_, ho, rfl⟩, call_meets F.slot_tuple_mul ⟨_, ho, rfl⟩ F.entry_tuple_mul (F.args_tuple_mul_2 _ _) (tuple_mulW l its.toArray n dd sl k t c0 c1 c2 (by omega) c4 (by rw [size_rep, List.size_toArray]; exact flen)) ⟨ho, ?_⟩⟩)
  rw [size_rep]
  refine ⟨.ref s.heap.objs.size, _, I.laid (t' := s.toks) (o := .tup (List.replicate k.toNat xs).flatten) (fun b ob q => Heap.get?_push_of_some _ q) (Nat.le_refl _) ?_, rfl, q _ (I.hok.fresh (Nat.le_refl _))⟩
  exact ⟨by rw [PyProof.Rows.lm_len_rep_flat, sizeLine_eq]; have a1 : k.toNat * xs.length ≤ 3000 * 1000 := Nat.mul_le_mul (by omega) hz; omega, _, r.rep k.toNat, IsTup.new _ _⟩
end Bk
set_option Elab.async false
set_option maxRecDepth 100000
set_option maxHeartbeats 1000000
namespace Bk
open PySem PySem.Spec PyProof.Rows L2
theorem RowOk.part {rain : List Int} {bs cs : List Bar} (ok : RowOk rain bs) (h : ∀ b ∈ cs, b ∈ bs) (hl : cs.length ≤ bs.length) : RowOk rain cs := ⟨ok.len, ok.len2, ok.fall, fun b hb => ok.bars b (h b hb), Nat.le_trans hl ok.cnt⟩
theorem catA {K : PySem.W.Frag} {H : Hp} {a b : Addr} {xs ys : List V} {Q : VK} (ha : SqT K H a xs) (hb : SqT K H b ys) (hl : xs.length + ys.length ≤ sizeLine) (k : ∀ p H', Same H H' → SqT K H' p (xs ++ ys) → Q (.ref p) H') : rCatA K (.ref a) (.ref b) H Q :=
  ⟨a, b, xs, ys, rfl, rfl, ha, hb, hl, fun e => k b H (Same.refl _) (by rw [e]; exact hb), fun _ e => k a H (Same.refl _) (by rw [e, List.append_nil]; exact ha), fun _ _ p np => k p _ (same_new np) (.inl (.inl upd_same))⟩
section
variable {X : Cx}
/-- a != b, two dicts with the same keys, their values equal data -/
def rNeDT (K : PySem.W.Frag) : R2 := fun x y H Q => ∃ a b ks ls, x = .ref a ∧ y = .ref b ∧ H a = some (.dK ks) ∧ H b = some (.dK ls) ∧ ks.length = ls.length ∧ (∀ p ∈ ks, ∃ u d, valV ls p.1 = some u ∧ Dp K H p.2 d ∧ Dp K H u d ∧ d.canLay0 = true ∧ d.depth ≤ 60) ∧ Q (.bl false) H
theorem hits_data {pins : List (Addr × Obj)} {σ : L2.St} {H : Hp} {s : Shared} (I : Inv X pins σ H s) (hu : X.A.units + 64 < cLine) {ls : List (Key × V)} {vb : List (Key × Value)} (rb : KV ls vb) {ks : List (Key × V)} {va : List (Key × Value)} (ra : KV ks va) :
    (∀ p ∈ ks, ∃ u d, valV ls p.1 = some u ∧ Dp X.K H p.2 d ∧ Dp X.K H u d ∧ d.canLay0 = true ∧ d.depth ≤ 60) → PySem.W.KeqHits X.A.in1 s vb va true := by
  unfold KV at ra
  induction ra with
  | nil => intro _; exact .nil
  | @cons p q ps qs h t ih =>
    intro hp
    obtain ⟨h1, h2⟩ := h
    obtain ⟨u, d, e, f, g, c, dp⟩ := hp p List.mem_cons_self
    have rr : RelO (some u) (valueAt vb p.1) := by rw [← e]; exact rb.val p.1
    obtain ⟨y, hy, ry⟩ := rr.some_of
    obtain ⟨k, v⟩ := q
    have h1' : p.1 = k := h1
    rw [h1'] at hy
    obtain ⟨as, r1⟩ := Dp.reads I d _ _ f h2
    obtain ⟨bs, r2⟩ := Dp.reads I d _ _ g ry
    have q := SeqAt.eqAt_reads d d X.A.in1 s v y as bs r1 r2 c c (by show X.A.units + 1 + min d.depth d.depth < cLine; omega)
    rw [SeqAt.eqv_refl d c] at q
    show PySem.W.KeqHits X.A.in1 s vb ((k, v) :: qs) (true && true)
    exact .hit hy q (ih fun p hm => hp p (List.mem_cons_of_mem _ hm))
theorem op_neDT (hu : X.A.units + 64 < cLine) : OpR X (compareOp .NotEq) (rNeDT X.K) := by
  intro pins s σ H x y v u Q I rx ry h
  obtain ⟨a, b, ks, ls, rfl, rfl, ea, eb, hlen, hp, q⟩ := h
  obtain rfl : v = Value.ref a := rx
  obtain rfl : u = Value.ref b := ry
  obtain ⟨_, ya, va, ra, da⟩ := (show ObjOk X.prog X.w H s.heap a (.dK ks) from I.hok a _ ea)
  obtain ⟨_, yb, vb, rb, db⟩ := (show ObjOk X.prog X.w H s.heap b (.dK ls) from I.hok b _ eb)
  have hl : va.length = vb.length := by rw [← ra.length, ← rb.length]; exact hlen
  exact PySem.W.keq_ne (knd := mixKind X.prog X.w) (r := true) ya yb da db (by omega) (fun _ => hits_data I hu rb ra hp) (fin_bl I q (by simp [hl]))
end
end Bk
set_option Elab.async false
set_option linter.all false
set_option maxRecDepth 100000
set_option maxHeartbeats 4000000
namespace PySem
namespace HandSPX
open PySem.W PySem.Calls PyProof.Rows
section
variable {M : Model} {A : Around} {E : Value → Shared → Prop} {h : Heap} {g : Array GenState} {d : Drawn} {t : Nat} {os : OsState}
variable {nm q : Str} {C N : Addr} {bs bm bmB : List Value} {hdct : Bool} {sn : List Str} {sub : List Value} {ab : Bool} {col : Option Bool} {dd : Option Addr} {k0 k1 k2 k3 k5 : Option Value} {B newId initId : String}
theorem bk_check_new (F : ExcBaseFacts B newId initId bmB) (hT : ∀ X : String, bm.contains (.type X) = bmB.contains (.type X)) {rest : List Value} {kw : List (Str × Value)} {Q : Unit → Shared → Prop}
    (hC : h.get? C = some (excClassObj nm q C N bs bm hdct sn sub ab col dd k0 k1 k2 k3 k5 newId)) (hq : Q () ⟨h, g, d, t, os⟩) : wpAny M A (checkBuiltinCall newId ⟨.ref C :: rest, kw⟩) Q E ⟨h, g, d, t, os⟩ := by
  have hcont : (Value.ref C :: bm).contains (.type B) = true := by rw [List.contains_cons, hT, F.hasB, Bool.or_true]
  have hstar := F.noStar
  simp only [checkBuiltinCall, F.newKind, F.newSplit, F.newRow]
  repeat (first | refine wpAny_loadPart_at hC ?_ | (refine wpAny_isSubtype_exc hC ?_; rw [hcont]) | refine wpAny_staticBase_exc hC ?_ | refine wpAny_madeBy_exc hC ?_ | simp only [bne_self_eq_false, Bool.false_eq_true, if_false] | wp_step)
  exact hq
end
section
variable {prog : Program} {w : World} {A : Around} {E : Value → Shared → Prop} {R : Result → Shared → Prop} {h : Heap} {g : Array GenState} {d : Drawn} {t : Nat} {os : OsState}
variable {nm q : Str} {C N : Addr} {bs bm bmB : List Value} {hdct : Bool} {sn : List Str} {sub : List Value} {ab : Bool} {col : Option Bool} {dd : Option Addr} {k0 k1 k2 k3 k5 : Option Value} {B newId initId : String}
theorem bk_new (F : ExcBaseFacts B newId initId bmB) (hT : ∀ X : String, bm.contains (.type X) = bmB.contains (.type X)) {rest : List Value} {kw : List (Str × Value)}
    (hC : h.get? C = some (excClassObj nm q C N bs bm hdct sn sub ab col dd k0 k1 k2 k3 k5 newId))
    (hq : R (.ok (.ret (.ref (h.objs.size + 1)))) ⟨(h.push { cls := .type "tuple", data := .seq rest.toArray }).push
      { cls := .ref C, data := .fields #[.ref h.objs.size, .none, .none, .none, .bool false, .none] }, g, d, t, os⟩) (hrest : rest.length ≤ sizeLine) :
    codeAny (model prog w) A (.builtin newId ⟨.ref C :: rest, kw⟩) R ⟨h, g, d, t, os⟩ := by
  have hends := F.ends
  have hcB : (Value.ref C :: bm).contains (.type B) = true := by rw [List.contains_cons, hT, F.hasB, Bool.or_true]
  have hcA : (Value.ref C :: bm).contains (.type "AttributeError") = false := by rw [List.contains_cons, hT, F.noAttr]; rfl
  have hcN : (Value.ref C :: bm).contains (.type "NameError") = false := by rw [List.contains_cons, hT, F.noName]; rfl
  refine codeAny_builtinAt F.entry ?_
  unfold Builtin.«BaseException.__new__»
  refine wpAt_bind ?_
  show wpAt _ _ _ (stack >>= _) _ _ _
  refine wpAt_bind (wpAt_stack fun p below => wpAt_of_wpAny ?_)
  wp_walk
  refine wpAt_of_wpAny ?_
  rw [F.owner]
  repeat (first | with_reducible refine wpAny_madeHere_exc F.canon hC ?_ | with_reducible refine wpAny_loadPart_at hC ?_ | (with_reducible refine wpAny_isSubtype_exc hC ?_; first | rw [hcB] | rw [hcA] | rw [hcN]) | wp_step)
  show R _ _
  rw [Heap.size_push]
  exact hq
theorem bk_type_call (F : ExcBaseFacts B newId initId bmB) (hT : ∀ X : String, bm.contains (.type X) = bmB.contains (.type X)) {rest : List Value} {kw : List (Str × Value)} {fI : Addr} {Q : Fin → Shared → Prop}
    (hC : h.get? C = some (excClassObj nm q C N bs bm hdct sn sub ab col dd k0 k1 k2 k3 k5 newId))
    (hi : W.Looks (model prog w) h (typeLookup (.ref C) "__init__") (some (.ref fI))) (hb : ∀ self, W.Looks (model prog w) h (bindSpecial (.ref fI) self) (.ref fI, [self])) (hrest : rest.length ≤ sizeLine)
    (hq : codeAny (model prog w) A (.call (.ref fI) ⟨.ref (h.objs.size + 1) :: rest, kw⟩)
      (fun r s' => match r with | .ok (.ret v) => v = .none ∧ Q (.done (.ret (.ref (h.objs.size + 1)))) s' | .ok _ => False | .error e => E e s')
      ⟨(h.push (W.kdv_tup rest)).push (excO C h.objs.size), g, d, t, os⟩) :
    wpAny (model prog w) A (Builtin.«type.__call__» ⟨.ref C :: rest, kw⟩) Q E ⟨h, g, d, t, os⟩ := by
  repeat (first | with_reducible refine wpAny_loadPart_at hC ?_ | with_reducible refine wpAny_madeBy_exc hC ?_ | wp_step)
  refine codeAny_call_builtin_code (Code.quiet_builtin _ F.quiet) (bk_check_new F hT hC ?_)
  refine bk_new F hT hC ?_ hrest
  show wpAny _ _ _ _ _ _
  have k : ∀ b o, h.get? b = some o → ((h.push (W.kdv_tup rest)).push (excO C h.objs.size)).get? b = some o := fun b o e => Heap.get?_push_of_some _ (Heap.get?_push_of_some _ e)
  have hC₁ := k _ _ hC
  have hget : ((h.push (W.kdv_tup rest)).push (excO C h.objs.size)).get? (h.objs.size + 1) = some (excO C h.objs.size) := by heap_get
  have hcC : (Value.ref C :: bm).contains (.ref C) = true := by simp
  have i1 := hi.keeps k
  have b1 := (hb (.ref (h.objs.size + 1))).keeps k
  unfold isInstance
  repeat (first | with_reducible refine wpAny_loadPart_at hget ?_ | (with_reducible refine wpAny_isSubtype_exc hC₁ ?_; rw [hcC]) | wp_step)
  show wpAny _ _ (typeLookup (.ref C) _) _ _ _
  refine i1.at ?_
  refine wpAny_holding (wpAny_bind (b1.at ?_))
  refine wpAny_bind (wpAny_call (codeAny_mono hq fun r s' z => ?_))
  rcases r with e | (v | _ | _ | _) <;> first | exact z | exact z.elim | skip
  obtain ⟨rfl, z⟩ := z
  first
    | exact wpAny_pure (wpAny_pure z)
    | (wp_walk; exact z)
theorem bk_call (F : ExcBaseFacts B newId initId bmB) (hT : ∀ X : String, bm.contains (.type X) = bmB.contains (.type X)) {rest : List Value} {kw : List (Str × Value)} {fI : Addr}
    (hC : h.get? C = some (excClassObj nm q C N bs bm hdct sn sub ab col dd k0 k1 k2 k3 k5 newId))
    (hi : W.Looks (model prog w) h (typeLookup (.ref C) "__init__") (some (.ref fI))) (hb : ∀ self, W.Looks (model prog w) h (bindSpecial (.ref fI) self) (.ref fI, [self])) (hrest : rest.length ≤ sizeLine)
    (hq : codeAny (model prog w) (A.under (.builtin "type.__call__" ⟨.ref C :: rest, kw⟩)) (.call (.ref fI) ⟨.ref (h.objs.size + 1) :: rest, kw⟩) (W.InitBack (h.objs.size + 1) R)
      ⟨(h.push (W.kdv_tup rest)).push (excO C h.objs.size), g, d, t, os⟩) :
    codeAny (model prog w) A (.call (.ref C) ⟨rest, kw⟩) R ⟨h, g, d, t, os⟩ := by
  have f1 := tc_lookup
  have f2 := tc_bind (.ref C)
  have hTy : (⟨h, g, d, t, os⟩ : Shared).TypeIs (.ref C) "type" := ⟨_, hC, rfl⟩
  refine codeAny_of_tree ?_
  show wpAny _ _ (callAny (.ref C) _) _ _ _
  repeat (any_goals (first | assumption | with_reducible refine wpAny_loadPart_at hC ?_ | wp_step))
  refine ⟨rfl, ?_⟩
  refine codeAny_call_builtin_at (Code.quiet_builtin _ (by decide +kernel)) entry_typeCall (wpAny_check_type_call_sub hC (bk_type_call F hT hC hi hb hrest ?_))
  refine codeAny_mono hq fun r s' z => ?_
  rcases r with e | (v | _ | _ | _) <;> exact z
end
end HandSPX
end PySem
set_option Elab.async false
set_option linter.all false
set_option maxRecDepth 100000
set_option maxHeartbeats 4000000
namespace PySem
namespace BkX
open PySem.W PySem.Calls PyProof.Rows
variable {prog : Program} {w : World} {A : Around} {E : Value → Shared → Prop} {h : Heap} {g : Array GenState} {d : Drawn} {t : Nat} {os : OsState}
variable {nm q : Str} {C N : Addr} {bs bm bmB : List Value} {hdct : Bool} {sn : List Str} {sub : List Value} {ab : Bool} {col : Option Bool} {dd : Option Addr} {k0 k1 k2 k3 k5 : Option Value} {B newId initId : String}
/-- the bound built-in __init__ called: the args are laid anew -/
theorem call_mw (F : ExcBaseFacts B newId initId bmB) {u e t0 : Addr} {rest : List Value} {Q : Value → Shared → Prop}
    (hC : h.get? C = some (excClassObj nm q C N bs bm hdct sn sub ab col dd k0 k1 k2 k3 k5 newId)) (he : h.get? e = some (HandSPX.excO C t0)) (hu : h.get? u = some (kxs_mw initId e)) (hrest : rest.length ≤ sizeLine)
    (hq : ∀ h' t1, (∀ b o, b ≠ e → h.get? b = some o → h'.get? b = some o) → h'.get? e = some (HandSPX.excO C t1) → Q .none ⟨h', g, d, t, os⟩) :
    wpAny (model prog w) A (call (.ref u) rest) Q E ⟨h, g, d, t, os⟩ := by
  refine wpAny_call (codeAny_of_tree ?_)
  show wpAny _ A.in1 (callAny (.ref u) ⟨rest, []⟩) _ _ _
  simp only [callAny]
  refine wpAny_bind (wpAny_load hu ?_)
  simp only [kxs_mw, show (Value.type "method-wrapper" == Value.type "method" || Value.type "method-wrapper" == Value.type "builtin_function_or_method" || Value.type "method-wrapper" == Value.type "method-wrapper") = true by decide, if_true]
  refine W.KFB.if_so (by decide) ?_
  refine wpAny_bind (ESX.check_bound F hC he rfl ?_)
  refine wpAny_bind (wpAny_pure (wpAny_pure ?_))
  refine ⟨plainId_quiet F.init.plain _, codeAny_builtin F.initEntry ?_⟩
  rw [Around.under_plainId F.init.plain _]
  wp_walk
  refine hq _ h.objs.size (fun b o hb ho => ?_) ?_
  · rw [Heap.get?_update_other _ _ (Ne.symm hb)]
    exact Heap.get?_push_of_some _ ho
  · rw [Heap.get?_update_self _ (Heap.get?_push_of_some _ he) rfl]
    rfl
theorem callWith_mw {M : Model} {A : Around} {i : String} {u x : Addr} {pos : Pos} {env : Env} {e : Expr} {Q E : Value → Shared → Prop} {s : Shared} (he : starEach [e] env = [(false, eval e env)])
    (h : wpAny M A (spliced (backTo pos (starEach [e] env))) (fun vs s₁ => s₁.heap.get? u = some (kxs_mw i x) ∧ wpAny M A (call (.ref u) vs) Q E s₁) E s) :
    wpAny M A (callWith pos (.ref u) [] (backTo pos (starEach [e] env)) []) Q E s := by
  rw [he] at h ⊢
  refine kxs_callWith (i := i) (x := x) rfl ?_
  exact evalArgs_plain h
end BkX
end PySem
namespace Bk
open PySem PySem.Spec PyProof.Rows L2 NdefX LamX
abbrev clsS : Str := ("__class__" : Str)
/-- what the written part says of super() in C's own __init__ -/
structure SupOk (P : Program) (K : PySem.W.Frag) (mg : Str → Option Value) (C : Addr) (F : NF) (cc : Addr) : Prop where
  cl : F.cl = [(clsS, cc)]
  hcd : PySem.W.codeIn K (.ref F.c) F.qual = true
  code : ∃ (ccl : Value) (cdd : Option Addr) (vs : Array Value) (ccs : Array (Option Value)) (file : Str) (tf : Tok), K.lookup F.c = some ⟨ccl, cdd, .fields vs, ccs⟩ ∧ vs[2]? = some (.str file tf) ∧ ((P.main.file : Str) == file) = true
  cell : ∃ (c : Value) (d : Option Addr) (sl : Array (Option Value)), K.lookup cc = some ⟨c, d, .cell (some (.ref C)), sl⟩
  T : OexC K C
  sub : PySem.W.mroIn K C (.ref C) = some true
  nsup : mg "super" = none
  top : (P.main.scope.names.lookup ("super" : Str)).isSome = false
  tp : PySem.W.nsIn K cStatics "thirdparty.any" = some none
  sup : PySem.W.ks_superIn K C C "__init__" = some (some (.builtin "ValueError.__init__"))
  ve : PySem.W.subIn K (.ref C) (.type "ValueError") = some true
section
variable {CX : CXT} {P : Program} {w : World} {K : PySem.W.Frag} {mg : Str → Option Value} {base : Heap} {ps : List Str} {F : NF} {f cc C : Addr} {k : Nat} {sp : Sp} {oc doc pm ctv : Value} {od : Option Addr} {osl : Array (Option Value)}
theorem fn_super {e : Expr} {rest : List Stmt} {p0 p1 p2 p3 p4 : Pos} {ar : Arg} (U : SupOk P K mg C F cc) (lk : K.lookup f = some ⟨oc, od, .func (F.fd doc pm ctv), osl⟩) (S : NScope (ps ++ [clsS]) ps [clsS] F.scope) (hks : F.scope.names.lookup ("super" : Str) = some .globalImplicit)
    (hbd : F.body = .Expr (.Call (.Attribute (.Call (.Name "super" p0) [] [] p1) "__init__" p2) [e] [] p3) p4 :: rest) (hp : (F.params.posonlyargs ++ F.params.args).head? = some ar) (har : ps[0]? = some ar.arg) (len : ∀ vs H Q E, sp vs H Q E → vs.length = ps.length)
    (he : ∀ env : Env, starEach [e] env = [(false, eval e env)]) (hswap : ∀ env : Env, swapsWith (.Call (.Attribute (.Call (.Name "super" p0) [] [] p1) "__init__" p2) [e] [] p3) none p4.line env = pure false)
    (hev : ∀ env : Env, eval (.Call (.Attribute (.Call (.Name "super" p0) [] [] p1) "__init__" p2) [e] [] p3) env = (do
      let ov ← attributeBase (.Call (.Name "super" p0) [] [] p1) "__init__" env (eval (.Call (.Name "super" p0) [] [] p1) env)
      standAt p2.atName
      let (f, first) ← holding [ov] (getMethod ov "__init__" (pure false))
      callWith p3 f first (backTo p3 (starEach [e] env)) []))
    (hb : ∀ (A : Around) (outer : List Env) (s : Shared) (H : Hp) (vs : List V) (Q : VK) (E : XK), Room k (A.deeper (envF F f s.heap.objs.size)) → sp vs H Q E → ∃ (te : TE) (tr : TS) (a : Addr), vs[0]? = some (.ref a) ∧ H a = some (exo a C none) ∧
      PE (ncx CX P w K mg base (ps ++ [clsS]) F f A outer s H E) e te ∧ PSs (ncx CX P w K mg base (ps ++ [clsS]) F f A outer s H E) rest tr ∧
      te (startF (ps ++ [clsS]) vs [none]) H fun x H1 => [x].length = 1 ∧ H1 a = some (exo a C none) ∧ tr { nx := fun _ H' => Q .non H', rt := Q } (startF (ps ++ [clsS]) vs [none]) H1) :
    FnOk P w K mg base CX (k + 1) f (F.fd doc pm ctv) ps sp := by
  refine ⟨len, fun A outer s H args us vs Q E hr e0 hbi r hsp => ?_⟩
  have hl := len _ _ _ _ hsp
  have KX : K.In s.heap := e0.mod.kin.keeps fun b o e => (e0.bs b o e).1
  have lim : s.heap.NoLimit := e0.mod.nolimit.keeps fun b o e => (e0.bs b o e).1
  obtain ⟨ccl, cdd, vc, ccs, file, tf, hcode, hvs, hfile⟩ := U.code
  obtain ⟨ce1, ce2, ce3, hcell⟩ := U.cell
  have hcl : ∀ y c, F.cl.lookup y = some c → y = clsS ∧ c = cc := fun y c z => by
    rw [U.cl] at z
    simp only [List.lookup] at z
    split at z
    · rename_i q
      exact ⟨by simpa using q, (Option.some.inj z).symm⟩
    · cases z
  have hclc : F.cl.lookup clsS = some cc := by rw [U.cl]; rfl
  have C0 : CellsAt F.cl [clsS] [none] s.heap H := ⟨rfl, fun y c z => by
      obtain ⟨rfl, rfl⟩ := hcl y c z
      exact ⟨(e0.bs _ _ (e0.mod.kin _ _ hcell)).2, _, _, KX _ _ hcell, rfl⟩, fun x y c h1 h2 => by rw [(hcl x c h1).1, (hcl y c h2).1], fun i y hy => by
      match i, hy with
      | 0, hy => cases hy; exact ⟨cc, hclc, fun v hv => by cases hv⟩
      | i + 1, hy => simp at hy⟩
  refine ks_codeAny_call_defAt (fd := F.fd doc pm ctv) (body := F.body) (binds := ps.zip us) hr.depth (KX _ _ lk) rfl lim (PySem.W.codeRec_of KX U.hcd) rfl hbi S.nocell (fun ⟨n, _⟩ hy => S.par n (List.of_mem_zip hy).1) (fun h₁ hns kp => ?_) S.co S.gen S.kind
  obtain ⟨te, tr, a, ha0, haH, hpe, hps, hq⟩ := hb A outer s H vs Q E (hr.deeper _) hsp
  have I : Inv (ncx CX P w K mg base (ps ++ [clsS]) F f A outer s H E) [] (startF (ps ++ [clsS]) vs [none]) H { s with heap := h₁, toks := s.toks + (ps.zip us).length } := inv_startN S hr.hd e0 hl r C0 hns kp
  show PySem.wpAt (model P w) (A.deeper (envF F f s.heap.objs.size)) (.func F.body (envF F f s.heap.objs.size)) (execs F.body (envF F f s.heap.objs.size)) _ _ { s with heap := h₁, toks := s.toks + (ps.zip us).length }
  generalize { s with heap := h₁, toks := s.toks + (ps.zip us).length } = s1 at I
  rw [hbd]
  refine ks_wpAt_execs_cons (ks_wpAt_Expr_any (ks_wpAt_MethodCall (pl := pure false) ?_ (hev _)) (by simp [interactive, envF, S.kind]) (hswap _))
  have hkc : F.scope.names.lookup clsS = some .free := S.frk _ (List.mem_singleton.mpr rfl)
  have hka : F.scope.names.lookup ar.arg = some .local := S.par _ (List.mem_of_getElem? har)
  have hN0 : (ps ++ [clsS])[0]? = some ar.arg := by
    rw [List.getElem?_append_left (List.getElem?_eq_some_iff.mp har).1]
    exact har
  have hσ0 : (startF (ps ++ [clsS]) vs [none])[0]? = some (some (V.ref a)) := by
    unfold startF
    rw [List.getElem?_append_left (by rw [List.length_map]; exact (List.getElem?_eq_some_iff.mp ha0).1), List.getElem?_map, ha0]
    rfl
  generalize startF (ps ++ [clsS]) vs [none] = σ at I hq hσ0
  obtain ⟨nm, q, N, bs, bm, sn, sub, ab, col, dd, k0, k1, k2, k3, k5, hC, hbm⟩ := U.T.cls
  have hc : PySem.W.clsIn K C = some { name := nm, bases := bs, mro := .ref C :: bm, ns := N, qualname := q, hasDict := true, slotNames := sn, subclasses := sub, abstract := ab, collection := col, hasDel := false } := by unfold PySem.W.clsIn; rw [hC] <;> rfl
  obtain ⟨m, hns1, hloc⟩ := I.loc
  obtain ⟨u, ru, hlk⟩ := hloc 0 ar.arg (.ref a) hN0 hσ0 (.inl hka)
  obtain rfl : u = Value.ref a := ru
  have hv : m ar.arg = some (.ref a) := by
    rcases hlk with ⟨_, z⟩ | ⟨z, _⟩
    · exact z
    · have hka' : (envF F f s.heap.objs.size).kindOf ar.arg = some .local := hka
      rcases z with z | z
      · have z : (envF F f s.heap.objs.size).kindOf ar.arg = some .cell := z
        rw [hka'] at z; cases z
      · have z : (envF F f s.heap.objs.size).kindOf ar.arg = some .free := z
        rw [hka'] at z; cases z
  have KX1 : K.In s1.heap := I.kIn
  obtain ⟨mb, hb1, hb2⟩ := I.mod.blt
  obtain ⟨t1, ho⟩ := exo_at I.hok haH
  refine ks_wpAt_super_base (env := envF F f s.heap.objs.size) hks hkc rfl rfl (KX1 _ _ lk) rfl hp rfl (KX1 _ _ hcode) rfl hvs hfile U.top ?_
  refine PySem.W.ks_loadName_global S.kind hks (Calls.loadGlobal_builtin (env := envF F f s.heap.objs.size) (I.mod.glob.keeps I.bk) U.nsup (hb1.keeps I.bk) ((hb2 _ (by decide)).trans (show bootBuiltins "super" = some (.type "super") from PyProof.Rows.Boot.«super»)) ⟨rfl, ?_⟩)
  refine wpAny_loadName_free S.kind hkc hclc ⟨_, KX1 _ _ hcell, rfl⟩ ?_
  refine wpAny_loadName_local S.kind hka hns1 hv ?_
  refine ks_wpAny_isType_cls (KX1 _ _ hC) rfl ⟨rfl, ?_⟩
  obtain ⟨hh, g, d, t, os⟩ := s1
  refine ks_wpAny_call_super (KX1 _ _ hC) rfl ho rfl (fun c z => by cases z) (PySem.W.looks_mroIn KX1 U.sub) (fun h' e' kp' => ?_)
  have I2 := I.kept (t' := t) kp'
  have IA : PySem.W.InstAt h' a _ C none := ⟨kp' _ _ ho, rfl, rfl, trivial⟩
  refine PySem.W.kxs_getMethod PySem.W.kxs_ValueError e' (PySem.W.looks_opaque I2.kIn U.tp) (l₀ := .ref C :: bm) (fun A Q E s k q => wpAny_bind ((PySem.W.looks_clsIn I2.kIn hc) A _ E s k (wpAny_pure q))) rfl I2.kIn ?_ (IA.type.andThen (PySem.W.looks_subIn I2.kIn U.ve)) (PySem.W.ks_ne I2.kIn IA hc) (by decide) ?_
  · have z := U.sup
    unfold PySem.W.ks_superIn at z
    rw [hc] at z
    exact z
  have kp2 : ∀ b o, h'.get? b = some o → (h'.push (PySem.W.kxs_mw "ValueError.__init__" a)).get? b = some o := fun b o e => Heap.get?_push_of_some _ e
  have I2' := I2.kept (t' := t + 1) kp2
  have I3 : Inv (ncx CX P w K mg base (ps ++ [clsS]) F f A outer s H E) [(h'.objs.size, PySem.W.kxs_mw "ValueError.__init__" a)] σ H ⟨h'.push (PySem.W.kxs_mw "ValueError.__init__" a), g, d, t + 1, os⟩ := I2'.pins_of fun p hp => by
    rw [List.mem_singleton.mp hp]
    exact ⟨Heap.get?_push_at rfl rfl, I2.hok.fresh (Nat.le_refl _), (Nat.ne_of_lt I2.lt).symm, I2.nofs (Nat.le_refl _), fun v z => by cases z⟩
  refine PySem.BkX.callWith_mw (i := "ValueError.__init__") (x := a) (he _) ?_
  refine thn ((pa_cons hpe pa_nil (hs := by rw [he]; rfl)).run p3 _ _ σ H (fun us H1 => us.length = 1 ∧ H1 a = some (exo a C none) ∧ tr { nx := fun _ H' => Q .non H', rt := Q } σ H1) I3 ?_) fun us4 s4 hh4 => ?_
  · exact hq
  · obtain ⟨vs4, H4, I4, r4, hl4, hx4, q4⟩ := hh4
    have hpin := (I4.pin _ (List.mem_append_right _ (List.mem_singleton.mpr rfl))).1
    refine ⟨hpin, ?_⟩
    obtain ⟨t4, ho4⟩ := exo_at I4.hok hx4
    obtain ⟨hp4, g4, d4, tk4, os4⟩ := s4
    refine PySem.BkX.call_mw _root_.PySem.F.excBase_ValueError (I4.kIn _ _ hC) ho4 hpin (by rw [← r4.length, hl4, sizeLine_eq]; decide) (fun h5 t5 k5 e5 => ?_)
    have J := I4.write (t' := tk4) (x := a) (e := a) (o := exo a C none) (by rw [hx4]; exact True.intro) (.inl rfl) k5 ⟨_, e5⟩ (exo_ok e5)
    have eu : upd H4 a (exo a C none) = H4 := by
      funext b
      by_cases hb : b = a
      · rw [hb, upd_same, hx4]
      · rw [upd_ne hb]
    rw [eu] at J
    refine wpAt_of_wpAny (wpAny_mono (hps.run _ _ σ H4 _ J q4) (fun fl s' hs => ?_) fun e s' hs => hs)
    have fin : ∀ {σ' : L2.St} {H' : Hp} {v : V} {u : Value}, Inv (ncx CX P w K mg base (ps ++ [clsS]) F f A outer s H E) [(h'.objs.size, PySem.W.kxs_mw "ValueError.__init__" a)] σ' H' s' → L2.RelV v u → Q v H' → CE outer P w H s Q u s' :=
      fun {σ' H' v u} J rv q => ⟨v, H', J.os, J.bare, J.base, J.hok, rv, q⟩
    cases fl with
    | ret u =>
      obtain ⟨v, σ', H', J, rv, q⟩ := hs
      exact fin J rv q
    | next =>
      obtain ⟨σ', H', J, q⟩ := hs
      exact fin (v := V.non) (u := Value.none) J rfl q
    | brk =>
      obtain ⟨_, _, _, q⟩ := hs
      exact False.elim q
    | cont =>
      obtain ⟨_, _, _, q⟩ := hs
      exact False.elim q
/-- C(x = e, ..), all by keywords, C's own __init__ keeping sp -/
def tMkK (C : Addr) (m : Nat) (sp : Sp) (gV : List V → List V → List V) (tk : TA) : L2.St → Hp → XK → Prop := fun σ H Q => tk σ H fun zs H1 => zs.length = m ∧ ∀ a, H1 a = none → sp (gV [.ref a] zs) (upd H1 a (exo a C none))
  (fun v H2 => v = .non ∧ ∃ (d : Addr) (fs : List (Str × V)), H2 a = some (exo a C (some d)) ∧ H2 d = some (exd d fs) ∧ H1 d = none ∧ Q (.ref C) (some d) (upd (L2.del H2 a) d (.xd fs))) (fun _ _ _ => False)
theorem pmk_oexK {X : Cx} {CX : CXT} {x : Str} {C fI : Addr} {k : Nat} {fd : FuncData} {ps ks : List Str} {sp : Sp} {kws : List Keyword} {tk : TA} {p pos : Pos} {g : List Value → List Value → List Value} {gV : List V → List V → List V} (T : OexC X.K C) (iC : PySem.W.findIn X.K (.ref C) "__init__" = some (some (.ref fI))) (tI : PySem.W.typeIn X.K (.ref fI) = some (.type "function"))
    (F1 : FnOk X.prog X.w X.K X.mg X.base CX k fI fd ps sp) (hr : Room (k + 1) X.A) (hb : KBn X.K fd ps 1 ks g gV) (hx : Passes CX X (fun _ _ _ => False)) (hg : Gl X x) (hm : X.mg x = some (.ref C)) (hkw : PK X kws tk)
    (hall : (backToKw pos (keywordEach kws X.env)).all (·.1.isSome) = true := by rfl) (hks : (backToKw pos (keywordEach kws X.env)).filterMap (·.1) = ks := by rfl) (hdb : (x == ("__debug__" : Str)) = false := by decide)
    (hpl : ((backTo pos (starEach [] X.env)).any (·.1) || (backToKw pos (keywordEach kws X.env)).any (·.1.isNone)) = false := by rfl) :
    PMk X (.Call (.Name x p) [] kws pos) (tMkK C ks.length sp gV tk) := by
  intro pins s σ H Q I h
  obtain ⟨nm, q, N, bs, bm, sn, sub, ab, col, dd, k0, k1, k2, k3, k5, hC, hbm⟩ := T.cls
  refine wpAny_Call_Name_kw (ld_glob I hg hm ?_ hdb)
  refine PySem.W.callWith_KW0 (h₀ := X.base) I.ok.mod.kin T.kC hall ?_ hpl
  refine thn (hkw.run pos pins s σ H _ I h) fun ws s1 ⟨zs, H1, I1, rz, l1, q1⟩ => ⟨I1.kIn, ?_⟩
  rw [hks]
  show wpAny _ _ (call (.ref C) [] (ks.zip ws)) _ _ _
  obtain ⟨hp, g', dr, tk', os⟩ := s1
  have hsz : hp.objs.size ≤ hp.objs.size + 1 := Nat.le_succ _
  have hn : H1 (hp.objs.size + 1) = none := I1.hok.fresh hsz
  have hq := q1 (hp.objs.size + 1) hn
  have kk : ∀ b o, hp.get? b = some o → ((hp.push (PySem.W.kdv_tup [])).push (PySem.HandSPX.excO C hp.objs.size)).get? b = some o := fun b o e => Heap.get?_push_of_some _ (Heap.get?_push_of_some _ e)
  have hget : ((hp.push (PySem.W.kdv_tup [])).push (PySem.HandSPX.excO C hp.objs.size)).get? (hp.objs.size + 1) = some (PySem.HandSPX.excO C hp.objs.size) := by heap_get
  have I2 : Inv X pins σ (upd H1 (hp.objs.size + 1) (exo (hp.objs.size + 1) C none)) ⟨(hp.push (PySem.W.kdv_tup [])).push (PySem.HandSPX.excO C hp.objs.size), g', dr, tk', os⟩ :=
    I1.laid (t' := tk') (a := hp.objs.size + 1) (o := exo (hp.objs.size + 1) C none) (h' := (hp.push (PySem.W.kdv_tup [])).push (PySem.HandSPX.excO C hp.objs.size)) kk hsz (exo_ok hget)
  have r2 := hb.rel (vs := [V.ref (hp.objs.size + 1)]) (us := [Value.ref (hp.objs.size + 1)]) (.cons rfl .nil) rz
  refine wpAny_call (PySem.HandSPX.bk_call _root_.PySem.F.excBase_ValueError (fun Y => PySem.HandSPX.refsVE_contains Y bm hbm) (I1.kIn _ _ hC) (PySem.W.looks_findIn I1.kIn iC) (fun self => PySem.W.bind_fn I1.kIn self tI) (Nat.zero_le _)
    (codeAny_mono (F1.run _ X.stack _ _ ⟨[Value.ref (hp.objs.size + 1)], ks.zip ws⟩ (g [Value.ref (hp.objs.size + 1)] ws) _ _ (fun _ _ _ => False) (hr.make C [] (ks.zip ws)) (I2.env0.make C [] (ks.zip ws)) (hb.to _ [Value.ref (hp.objs.size + 1)] ws I2.kIn rfl (rz.length.symm.trans l1)) r2 hq) fun r s' hq' => ?_))
  cases r with
  | error er => exact hx pins σ _ _ er s' I2 hq'
  | ok fl =>
    cases fl with
    | ret u =>
      obtain ⟨v, H2, os2, bare2, un2, hok2, rv, ev, d, fs, ea, ed, hd1, q2⟩ := hq'
      subst ev
      obtain ⟨h2, g2, d2, t2, os'⟩ := s'
      exact ⟨rv, mk_end (raises_own T.exC T.tyC) I1 hsz kk un2 hok2 os2 bare2 ea ed hd1 q2⟩
    | next => exact False.elim hq'
    | brk => exact False.elim hq'
    | cont => exact False.elim hq'
/-! ### what a caller needs of an exception's class, of a def that may raise -/
structure ExK (P : Program) (w : World) (K : PySem.W.Frag) (mg : Str → Option Value) (base : Heap) (x : Str) (C : Addr) (ks : List Str) (k : Nat) (sp : Sp) : Prop where
  ex : ∃ (fI : Addr) (fd : FuncData) (ps : List Str), OexC K C ∧ PySem.W.findIn K (.ref C) "__init__" = some (some (.ref fI)) ∧ PySem.W.typeIn K (.ref fI) = some (.type "function") ∧ FnOk P w K mg base CX0 k fI fd ps sp ∧
    KBn K fd ps 1 ks (fun us ws => us ++ ws) (fun vs zs => vs ++ zs) ∧ mg x = some (.ref C)
structure CalleeX (P : Program) (w : World) (K : PySem.W.Frag) (mg : Str → Option Value) (base : Heap) (x : Str) (k : Nat) (sp : Sp) : Prop where
  ex : ∃ (f : Addr) (fd : FuncData) (ps : List Str), mg x = some (.ref f) ∧ PySem.W.keepIn K (.ref f) = true ∧ Binds K fd ps [] ∧ FnOk P w K mg base (L2.CX P w) k f fd ps sp
theorem pmk_exK {X : Cx} {x : Str} {C : Addr} {ks : List Str} {k : Nat} {sp : Sp} {kws : List Keyword} {tk : TA} {p pos : Pos} (c : ExK X.prog X.w X.K X.mg X.base x C ks k sp) (hr : Room (k + 1) X.A) (hg : Gl X x) (hkw : PK X kws tk)
    (hall : (backToKw pos (keywordEach kws X.env)).all (·.1.isSome) = true := by rfl) (hks : (backToKw pos (keywordEach kws X.env)).filterMap (·.1) = ks := by rfl) (hdb : (x == ("__debug__" : Str)) = false := by decide)
    (hpl : ((backTo pos (starEach [] X.env)).any (·.1) || (backToKw pos (keywordEach kws X.env)).any (·.1.isNone)) = false := by rfl) :
    PMk X (.Call (.Name x p) [] kws pos) (tMkK C ks.length sp (fun vs zs => vs ++ zs) tk) := by
  obtain ⟨fI, fd, ps, T, iC, tI, F1, hb, hm⟩ := c.ex
  exact pmk_oexK T iC tI F1 hr hb pass0 hg hm hkw hall hks hdb hpl
theorem pe_callFX {X : Cx} {W : WX} {x : Str} {k : Nat} {sp : Sp} {e : Expr} {es : List Expr} {t : TA} {p pos : Pos} (c : CalleeX X.prog X.w X.K X.mg X.base x k sp) (tk : Takes X W) (hr : Room k X.A) (hg : Gl X x) (ha : PA X (e :: es) t) (hdb : (x == ("__debug__" : Str)) = false := by decide)
    (he : starEach (e :: es) X.env = (false, eval e X.env) :: starEach es X.env := by rfl) (hpl : (backTo pos (starEach es X.env)).any (·.1) = false := by rfl) :
    PE X (.Call (.Name x p) (e :: es) [] pos) (tCallS sp (WE W) t) := by
  obtain ⟨f, fd, ps, h1, h2, h3, h4⟩ := c.ex
  exact pe_callS h4 hr hg h1 h2 h3 (passAt tk) ha hdb he hpl
/-- an exception's class without an own __init__ -/
structure ExN (K : PySem.W.Frag) (mg : Str → Option Value) (x : Str) (C : Addr) : Prop where
  ex : PySem.W.excIn K C PySem.HandSPX.veTail "ValueError.__new__" = true
  mg : mg x = some (.ref C)
  kC : PySem.W.keepIn K (.ref C) = true
  exC : PySem.W.subIn K (.ref C) (.type "BaseException") = some true
  tyC : PySem.W.typeIn K (.ref C) = some (.type "type")
theorem pmk_exN {X : Cx} {C : Addr} {x : Str} {e : Expr} {ta : TE} {p pos : Pos} (c : ExN X.K X.mg x C) (hg : Gl X x) (he : PE X e ta) (hs : starEach [e] X.env = (false, eval e X.env) :: starEach [] X.env := by rfl) (hdb : (x == ("__debug__" : Str)) = false := by decide) :
    PMk X (.Call (.Name x p) [e] [] pos) (fun σ H Q => ta σ H fun _ H1 => Q (.ref C) none H1) :=
  SkE.pmk_own1 _root_.PySem.F.excBase_ValueError c.ex c.mg c.kC (raises_own c.exC c.tyC) hg he hs hdb
/-- the heap behind a raise: nothing but the exception's own dict is new -/
theorem raise_same {H : Hp} {a d : Addr} {fs : List (Str × V)} {o1 o2 o3 : HO} (ha : H a = none) (hd : (upd H a o1) d = none) (hda : d ≠ a) : Same H (upd (L2.del (upd (upd (upd H a o1) d o2) a o3) a) d (.xd fs)) := fun b o e => by
  have hb : b ≠ a := ne_of_none e ha
  have hbd : b ≠ d := by
    rw [upd_ne hda] at hd
    exact ne_of_none e hd
  rw [upd_ne hbd, L2.del_ne hb, upd_ne hb, upd_ne hbd, upd_ne hb]
  exact e
end
end Bk
set_option Elab.async false
set_option linter.all false
set_option maxRecDepth 100000
set_option maxHeartbeats 2000000
namespace Bk
open PySem PySem.Spec PyProof.Rows L2 LamX
theorem takes_len {X : Cx} {W : WX} (t : Takes X W) : Takes X (fun cls d σ H => σ.length = X.N.length → W cls d σ H) := fun u s' ⟨a, B, sI, pins, σ, H, cls, d, e, I, nb, up, sky, na, os, ag, w⟩ => t u s' ⟨a, B, sI, pins, σ, H, cls, d, e, I, nb, up, sky, na, os, ag, w I.len⟩
/-- told: try: return a() / except x as n: suite -/
def TTas (K : PySem.W.Frag) (CS : Addr) (N : List Str) (i : Nat) (ts : Addr → Value → Option Addr → TS) : (XK → Hp → VK → Prop) → Hp → VK → Prop := fun tl H Q =>
  tl (fun cls d H' => ∃ b, PySem.W.exmOne K cls (.ref CS) = some b ∧ (b = true → ∀ (a : Addr) (σ : L2.St), σ.length = N.length → H' a = none → ts a cls d { nx := fun _ H' => Q .non H', rt := Q } (σ.set i (some (.ref a))) H') ∧ (b = false → False)) H Q
theorem as_gives {X : Cx} {Ng : List Str} {x a e n q : Str} {sg : Scope} {g CS : Addr} {cdg : Value} {i : Nat} {b₀ : Stmt} {suite : List Stmt} {ts : Addr → Value → Option Addr → TS} {p1 p2 p3 p4 p7 p8 : Pos} (hge : sg.names.lookup e = some .globalImplicit) (hme : X.mg e = some (.ref CS)) (hde : (e == ("__debug__" : Str)) = false)
    (h0 : ∀ f : Addr, (L2.start Ng [V.ref f])[0]? = some (some (V.ref f))) (hnd : Ng.Nodup) (hi : Ng[i]? = some n) (hln : sg.names.lookup n = some .local)
    (hsu : ∀ (s : Shared) (H : Hp) (b : Addr) (oe : Obj) (cls : Value) (d : Option Addr) (pn : List (Addr × Obj)), Zc cls d oe → (∃ vs, oe.data = .fields vs) →
      PSs ((cxOf C8.CX0 X.prog X.w X.K X.mg X.base Ng x sg g cdg X.A X.stack s H C8.E0).nox.suite b ((b, oe) :: pn)) (b₀ :: suite) (ts b cls d)) :
    GivesTo X Ng x sg g cdg [.Try [.Return (some (.Call (.Name a p1) [] [] p2)) p3] [.ExceptHandler (some (.Name e p4)) (some n) (b₀ :: suite) p7] [] [] p8] a q (TTas X.K CS Ng i ts) := by
  intro f c' s H Q tl act hc h
  have hgl : Gl (cxOf C8.CX0 X.prog X.w X.K X.mg X.base Ng x sg g cdg X.A X.stack s H C8.E0).nox e := hge
  refine ⟨_, pss_one (ps_try_as (X := (cxOf C8.CX0 X.prog X.w X.K X.mg X.base Ng x sg g cdg X.A X.stack s H C8.E0).nox) (c := .ref CS) (i := i)
      (tb := fun W D σ H => ∃ Ech : XK, (∀ cls d (σ' : L2.St) H', σ'.length = Ng.length → Ech cls d H' → W cls d σ' H') ∧ σ[0]? = some (some (.ref f)) ∧ H c' = some (CodeO c' q) ∧ tl Ech H D.rt)
      rfl rfl hnd hi hln ⟨hgl, hde, .inl hme⟩ LamX.takes0 (fun W pn xe tk _ => ?_) (fun b oe cls d pn hz hf => hsu s H b oe cls d pn hz hf)), ?_⟩
  · refine ⟨fun pins s' σ H' D I h' => ?_⟩
    obtain ⟨Ech, hW, h1, h2, h3⟩ := h'
    have hp := act (fun cls d σ H => σ.length = Ng.length → W cls d σ H) pn xe Ech p1 p2 (takes_len tk) (fun cls d σ' H' he hl => hW cls d σ' H' hl he)
    have hq := pss_one (ps_ret (pos := p3) hp)
    exact hq.run pins s' σ H' D I ⟨h1, h2, h3⟩
  · exact ⟨fun cls d H' => ∃ b, PySem.W.exmOne X.K cls (.ref CS) = some b ∧ (b = true → ∀ (a : Addr) (σ : L2.St), σ.length = Ng.length → H' a = none → ts a cls d { nx := fun _ H' => Q .non H', rt := Q } (σ.set i (some (.ref a))) H') ∧ (b = false → False),
      fun cls d σ' H' hl ⟨b, e1, e2, e3⟩ => ⟨b, e1, fun hb a ha => e2 hb a σ' hl ha, fun hb => e3 hb⟩, h0 f, hc, h⟩
/-- what a caller needs of the def that calls a lambda and tells its outcome -/
structure OutF (K : PySem.W.Frag) (mg : Str → Option Value) (st : Stmt) (x a : Str) : Prop where
  ex : ∃ (g : Addr) (oc : Value) (od an : Option Addr) (kV doc pm cdv ct : Value) (osl : Array (Option Value)), mg x = some (.ref g) ∧ PySem.W.keepIn K (.ref g) = true ∧
    K.lookup g = some ⟨oc, od, .func (PySem.W.fnOf x x (defArgs st) (defBody st) (defScope st) .none kV doc pm an cdv ct), osl⟩ ∧ PySem.W.codeIn K cdv x = true ∧
    L2.Binds K (PySem.W.fnOf x x (defArgs st) (defBody st) (defScope st) .none kV doc pm an cdv ct) [a] []
theorem pe_out {X : Cx} {T : List (Addr × Str)} {TT : (XK → Hp → VK → Prop) → Hp → VK → Prop} {st : Stmt} {x a : Str} {c P : Addr} {k : Nat} {Ng : List Str} {params : Arguments} {body : Expr} {scope : Scope} {t : XK → TE} {p lpos pos : Pos} (F : OutF X.K X.mg st x a) (Sg : FnScope Ng [a] (defScope st)) (hNg : Ng[0]? = some a) (hva : Vis (defScope st) a)
    (hG : ∀ (g : Addr) (cdv : Value), GivesTo X Ng x (defScope st) g cdv (defBody st) a (X.env.qual ++ "<lambda>") TT)
    (hg : Gl X x) (TB : TabB X.base X.mg c P) (hcode : X.env.code = .ref c) (hmT : (P, X.env.qual ++ "<lambda>") ∈ T) (hu : ∀ p ∈ T, p.1 = P → p.2 = X.env.qual ++ "<lambda>") (hr : Room (k + 2) X.A) (L : LamS X.env.scope scope)
    (hbody : ∀ (A : Around) (outer : List Env) (s : Shared) (H : Hp) (E : XK) (f c' : Addr), Room k (A.deeper (lamEnv X scope s.heap.objs.size f c')) → PE (lamCx X A outer s H E scope f c') body (t E))
    (hdef : defaultsOf params X.env = ([], []) := by rfl)
    (hbind : ∀ (q : Str) (cl : List (Str × Addr)) (pm cv ctv : Value), bindArgs (PySem.W.kla_fn "<lambda>" q params body scope cl pm cv ctv) ⟨[], []⟩ = pure [] := by intros; rfl)
    (hdb : (x == ("__debug__" : Str)) = false := by decide) (hd : (a == ("__debug__" : Str)) = false := by decide) (hcd : (a == ("__classdict__" : Str)) = false := by decide) :
    PE X (.Call (.Name x p) [.Lambda params body scope lpos] [] pos) (tLam T TT t) := by
  obtain ⟨g, oc, od, an, kV, doc, pm, cdv, ct, osl, f1, f2, f3, f4, f5⟩ := F.ex
  exact pe_lamcall hg f1 f2 f3 f4 f5 Sg hNg hva (hG g cdv) TB hcode hmT hu hr L hdef hbind hbody hdb hd hcd
/-! ### a tuple whose object is told: its methods -/
theorem call_tuple_ofZ {X : Cx} : CallR X (.type "tuple") (fun xs H Q => ∃ p ys, xs = [.ref p] ∧ SqL X.K H p ys ∧ ∀ (l : Addr) (o : Obj), H l = none → o.cls = .type "tuple" → o.dict = none → Q (.ref l) (upd H l (.frz o (.tup ys)))) := by
  intro pins s σ H xs us Q I r h
  obtain ⟨p, ys, rfl, hq, q⟩ := h
  obtain ⟨u, rfl, rx⟩ := vals1 r
  cases rx
  obtain ⟨its, r', pl, hz⟩ := I.list hq
  have hlen := r'.length
  refine call_tuple_list pl.isList (fun h' kp => ?_) (by simp only [List.size_toArray] <;> omega)
  have I1 : Inv X pins σ H { s with heap := h' } := I.kept (t' := s.toks) kp
  have I2 : Inv X pins σ (upd H h'.objs.size (.frz { cls := .type "tuple", data := .seq its.toArray } (.tup ys))) { s with heap := h'.push { cls := .type "tuple", data := .seq its.toArray } } :=
    I1.laid (t' := s.toks) (fun b o e => Heap.get?_push_of_some _ e) (Nat.le_refl _) (show ObjOk X.prog X.w _ _ _ (.frz _ (.tup ys)) from ⟨Heap.get?_push_at rfl rfl, hz, its, r', IsTup.new _ _⟩)
  exact ⟨.ref h'.objs.size, _, I2, rfl, q _ _ (I1.hok.fresh (Nat.le_refl _)) rfl rfl⟩
def tTupIdx (K : PySem.W.Frag) (to te : TE) : TE := fun σ H Q => to σ H fun x H1 => (∃ (p : Addr) (ob : Obj) (ys : List V), x = .ref p ∧ H1 p = some (.frz ob (.tup ys)) ∧ ob.cls = .type "tuple" ∧ ob.dict = none) ∧ te σ H1 fun y H2 =>
  ∃ (p : Addr) (ys : List Str) (z : Str) (j : Nat), x = .ref p ∧ y = .str z ∧ SqT K H2 p (ys.map V.str) ∧ ys[j]? = some z ∧ (∀ m, m < j → ys[m]? ≠ some z) ∧ Q (.int (j : Nat)) H2
theorem pe_tupIdx {X : Cx} {o e : Expr} {to te : TE} {apos cpos : Pos} (ho : PE X o to) (he : PE X e te)
    (hbase : attributeBase o "index" X.env (eval o X.env) = eval o X.env := by rfl)
    (hfew : ((backTo cpos (starEach [e] X.env)).all (fun x => !x.1) && (backToKw cpos (keywordEach [] X.env)).all (fun x => x.1.isSome)
      && decide ([e].length + ([] : List Keyword).length + (if ([] : List Keyword).isEmpty then 0 else 1) < 30)) = true := by rfl)
    (hline : (apos.endLine == cpos.line) = true := by rfl) (hs : starEach [e] X.env = (false, eval e X.env) :: starEach [] X.env := by rfl) :
    PE X (.Call (.Attribute o "index" apos) [e] [] cpos) (tTupIdx X.K to te) := by
  refine ⟨fun pins s σ H Q I h => ?_⟩
  refine wpAny_Call_method_late hbase hfew hline rfl (thn (ho.run pins s σ H _ I h) fun v s1 ⟨x, H1, I1, r1, ⟨p, ob, ys0, ex, hp, hc, hd⟩, q1⟩ => ?_)
  subst ex
  obtain rfl : v = Value.ref p := r1
  obtain ⟨hob, _⟩ := I1.hok p _ hp
  refine ⟨"tuple", "tuple.index", PySem.F.plainAttrs_tuple, PySem.F.slot_tuple_index, PySem.F.type_tuple_index, ⟨ob, hob, hc⟩, (fun a e => by cases e; exact ⟨ob, hob, hd⟩), ?_⟩
  have hA := (pa_cons he pa_nil (hs := hs)).run cpos pins s1 σ H1 (fun vs H2 => match vs with
    | [y] => ∃ (p' : Addr) (ys : List Str) (z : Str) (j : Nat), V.ref p = .ref p' ∧ y = .str z ∧ SqT X.K H2 p' (ys.map V.str) ∧ ys[j]? = some z ∧ (∀ m, m < j → ys[m]? ≠ some z) ∧ Q (.int (j : Nat)) H2
    | _ => False) I1 q1
  rw [hs] at hA ⊢
  refine Calls.callWith_builtin (by rfl) (Calls.evalArgs_plain ?_)
  refine thn hA fun us s2 ⟨vs, H2, I2, r2, hh⟩ => ?_
  match vs, r2, hh with
  | [], _, hh => exact hh.elim
  | _ :: _ :: _, _, hh => exact hh.elim
  | [y], r2, ⟨p', ys, z, j, ep, ey, h1, h2, h3, q⟩ =>
  subst ey
  cases ep
  exact mt_tup_index pins s2 σ H2 (.ref p) [.str z] (.ref p) us Q I2 rfl r2 ⟨p, ys, z, j, rfl, rfl, h1, h2, h3, q⟩
end Bk
set_option Elab.async false
set_option linter.all false
set_option maxRecDepth 100000
set_option maxHeartbeats 2000000
namespace Bk
open PySem PySem.Spec PyProof.Rows L2 LamX
section
variable {X : Cx} {CX : CXT} {k i : Nat} {f C : Addr} {sp : Sp} {E : XK} {x m : Str} {o e : Expr} {es : List Expr} {t : TA} {ta : TE} {p pos apos : Pos} {pl : Sem Bool}
/-- cls(..) where the local name cls holds the class -/
def tMakeL (i : Nat) (C : Addr) (sp : Sp) (E : XK) (t : TA) : TE := fun σ H Q => σ[i]? = some (some (.ref C)) ∧ StX.tMakeR C sp E t σ H Q
theorem pe_makeLS (c : MakerR X.prog X.w X.K X.mg X.base m C k sp) (hr : Room (k + 1) X.A) (hN : X.N[i]? = some x) (hv : Vis X.env.scope x) (ha : PA X (e :: es) t)
    (hdb : (x == ("__debug__" : Str)) = false := by decide) (hcd : (x == ("__classdict__" : Str)) = false := by decide)
    (he : starEach (e :: es) X.env = (false, eval e X.env) :: starEach es X.env := by rfl) (hst : (backTo pos (starEach es X.env)).any (·.1) = true := by rfl) : PE X (.Call (.Name x p) (e :: es) [] pos) (tMakeL i C sp E0 t) := by
  obtain ⟨f, M, hm, F⟩ := c.ex
  refine ⟨fun pins s σ H Q I h => ?_⟩
  obtain ⟨hs, ht⟩ := h
  refine wpAny_Call_Name_kw (thn ((pe_var (pos := p) hN hv hdb hcd).run pins s σ H (fun v H1 => v = .ref C ∧ H1 = H) I ⟨.ref C, hs, rfl, rfl⟩) fun u s1 ⟨v, H1, I1, r1, q1⟩ => ?_)
  obtain ⟨rfl, rfl⟩ := q1
  cases r1
  refine PySem.W.callWith_S2 (h₀ := X.base) I.ok.mod.kin M.kp (thn (ha.run pos pins s1 σ _ _ I1 ht) fun us s2 ⟨vs, H2, I2, r, q⟩ => ⟨I2.kIn, ?_⟩) he hst
  exact StX.run_makeR M F hr pass0 I2 r q
theorem bind_star3 {B : List Value → Sem (List (Str × Value))} {p1 p2 p3 pv : Str} (h0 : ∀ a b c, B [a, b, c] = (newTuple [] >>= fun t => pure [(p1, a), (p2, b), (p3, c), (pv, t)])) (h1 : ∀ a b c r rs, B (a :: b :: c :: r :: rs) = (newTuple (r :: rs) >>= fun t => pure [(p1, a), (p2, b), (p3, c), (pv, t)])) :
    ∀ us rest : List Value, us.length = [p1, p2, p3].length → B (us ++ rest) = (newTuple rest >>= fun t => pure ([p1, p2, p3].zip us ++ [(pv, t)]))
  | [a, b, c], [], _ => h0 a b c
  | [a, b, c], r :: rs, _ => h1 a b c r rs
end
/-- a classmethod of C that a caller may ask for -/
structure CalleeC (P : Program) (w : World) (K : PySem.W.Frag) (mg : Str → Option Value) (base : Heap) (C : Addr) (m : Str) (k : Nat) (sp : Sp) : Prop where
  ex : ∃ (mc : Value) (p g : Addr), ClX.CRead K C mc ∧ ClX.CMet K C mc m p g ∧ FnR P w K mg base CX0 k g sp
theorem pe_cmethF {X : Cx} {k : Nat} {C : Addr} {sp : Sp} {m : Str} {o e : Expr} {es : List Expr} {t : TA} {ta : TE} {pos apos : Pos} {pl : Sem Bool} (c : CalleeC X.prog X.w X.K X.mg X.base C m k sp) (hr : Room k X.A) (he : PE X o ta) (ha : PA X (e :: es) t)
    (hst : starEach (e :: es) X.env = (false, eval e X.env) :: starEach es X.env := by rfl) (hpl : (backTo pos (starEach es X.env)).any (·.1) = false := by rfl)
    (ht : eval (.Call (.Attribute o m apos) (e :: es) [] pos) X.env = (do
      let ov ← eval o X.env
      standAt apos.atName
      let (f, first) ← holding [ov] (getMethod ov m pl)
      callWith pos f first (backTo pos (starEach (e :: es) X.env)) (backToKw pos (keywordEach [] X.env))) := by rfl) :
    PE X (.Call (.Attribute o m apos) (e :: es) [] pos) (ClX.tCMeth C sp E0 ta t) := by
  obtain ⟨mc, p, g, r, cm, F⟩ := c.ex
  exact ClX.pe_cmeth he r cm F hr pass0 ha hst hpl ht
end Bk
set_option Elab.async false
set_option linter.all false
set_option maxRecDepth 100000
set_option maxHeartbeats 2000000
namespace PySem
namespace BkG
open PySem Sem
section
variable {M : Model} {A : Around} {R : GenEnd} {Y : Protocol} {n : Nat} {s₀ : Shared} {c : Code} {fs : List Frame} {s : Shared} {env : Env}
  {K : Flow → Sem Fin} {H : Value → Sem Fin} {gd : Bool → Bool} {lv : List Value → List Value}
theorem seg_bindW {α β : Type} {m : Sem α} {k : α → Sem β} {K : β → Sem Fin} (h : wpAny M (A.over c fs) m (fun a s' => Seg M A R Y n s₀ c ((k a).wrap K H gd lv) fs s') (fun x s' => Seg M A R Y n s₀ c (H x) fs s') s) :
    Seg M A R Y n s₀ c ((m >>= k).wrap K H gd lv) fs s := by
  rw [Sem.bind_eq_wrap', Sem.wrap_wrap]
  exact seg_wrap h
theorem seg_For {target iter : Expr} {body orelse : List Stmt} {pos : Pos} (hs : ∀ x, foldedSetIterable iter env x = pure x)
    (h : wpAny M (A.over c fs) (eval iter env) (fun x s₁ => wpAny M (A.over c fs) (pyIter x) (fun it s₂ => ∀ p, Seg M A R Y n s₀ (.forLoop target it body orelse env) (M.den (.forLoop target it body orelse env))
      (.ret (fun r => ((match r with | .ok f => (.pure f : Sem Flow) | .error e => .raise e).onRaise fun (x : Value) => do
        if (← field x 1) == Value.none then unsupported "frame.own-activation:exception-without-traceback"
        setFlight x env.frame).wrap K H gd lv) none (gd false) (lv []) c p [] :: fs) s₂) (fun x s' => Seg M A R Y n s₀ c (H x) fs s') s₁) (fun x s' => Seg M A R Y n s₀ c (H x) fs s') s) :
    Seg M A R Y n s₀ c ((exec (.For target iter body orelse pos) env).wrap K H gd lv) fs s := by
  rw [exec_For]
  refine seg_bindW (wpAny_standAt (seg_bindW (wpAny_mono h (fun x s₁ h₁ => ?_) fun _ _ z => z)))
  rw [hs]
  refine seg_bindW (wpAny_pure (seg_bindW (wpAny_standAt (seg_bindW (wpAny_holding (wpAny_mono h₁ (fun it s₂ h₂ => ?_) fun _ _ z => z))))))
  exact seg_call h₂
end
section
variable {prog : Program} {w : World} {A : Around} {R : GenEnd} {Y : Protocol} {n : Nat} {s₀ : Shared} {fs : List Frame} {s : Shared} {env : Env}
theorem seg_forLoop {target : Expr} {it : Value} {body orelse : List Stmt}
    (h : wpAny (model prog w) (A.over (.forLoop target it body orelse env) fs) (pyNext it) (fun r s₁ => match r with
        | none => Seg (model prog w) A R Y n s₀ (.forLoop target it body orelse env) (.pure (.again (.block orelse env))) fs s₁
        | some v => wpAny (model prog w) (A.over (.forLoop target it body orelse env) fs) (letOwnedTupleGo target it v) (fun _ s₁' => wpAny (model prog w) (A.over (.forLoop target it body orelse env) fs) (assign target env v) (fun _ s₂ =>
            Seg (model prog w) A R Y n s₀ (.forLoop target it body orelse env) ((execs body env).wrap (fun f => match f with
              | .next | .cont => .pure (.again (.forLoop target it body orelse env))
              | .brk => .pure (.done .next)
              | .ret v => .pure (.done (.ret v))) (fun e => (do noteFrame e env; theTreesLotGoes e : Sem Unit).wrap (fun _ => .raise e) .raise id id) id id) fs s₂)
            (fun x s' => Seg (model prog w) A R Y n s₀ (.forLoop target it body orelse env) ((do noteFrame x env; theTreesLotGoes x : Sem Unit).wrap (fun _ => .raise x) .raise id id) fs s') s₁')
            (fun x s' => Seg (model prog w) A R Y n s₀ (.forLoop target it body orelse env) ((do noteFrame x env; theTreesLotGoes x : Sem Unit).wrap (fun _ => .raise x) .raise id id) fs s') s₁)
      (fun x s' => Seg (model prog w) A R Y n s₀ (.forLoop target it body orelse env) ((do noteFrame x env; theTreesLotGoes x : Sem Unit).wrap (fun _ => .raise x) .raise id id) fs s') s) :
    Seg (model prog w) A R Y n s₀ (.forLoop target it body orelse env) ((model prog w).den (.forLoop target it body orelse env)) fs s := by
  show Seg _ A R Y n s₀ _ ((forTurn target it body orelse env).onRaise (fun x => do noteFrame x env; theTreesLotGoes x)) fs s
  unfold forTurn
  rw [Sem.onRaise_eq_wrap]
  have EE : ∀ x s', Seg (model prog w) A R Y n s₀ (.forLoop target it body orelse env) ((do noteFrame x env; theTreesLotGoes x : Sem Unit).wrap (fun _ => .raise x) .raise id id) fs s' →
      Seg (model prog w) A R Y n s₀ (.forLoop target it body orelse env) ((do noteFrame x env; theTreesLotGoes x : Sem Unit).bind fun _ => .raise x) fs s' := fun x s' hx => by
    rw [Sem.bind_eq_wrap]
    exact hx
  refine seg_bindW (wpAny_standAt (seg_bindW (wpAny_onRaise (wpAny_mono h (fun r s₁ h₁ => ?_) fun x s' hx => wpAny_standAt (EE x s' hx)))))
  cases r with
  | none => exact h₁
  | some v =>
    refine seg_bindW (wpAny_mono h₁ (fun _ s₁' h₂ => seg_bindW (wpAny_mono h₂ (fun _ s₂ h₃ => ?_) fun x s' hx => EE x s' hx)) fun x s' hx => EE x s' hx)
    rw [Sem.bind_eq_wrap', Sem.wrap_wrap]
    rw [Sem.wrap_congr (execs body env) _ _ (K' := fun f => match f with
          | .next | .cont => .pure (.again (.forLoop target it body orelse env))
          | .brk => .pure (.done .next)
          | .ret v => .pure (.done (.ret v))) (H' := (fun e => (do noteFrame e env; theTreesLotGoes e : Sem Unit).wrap (fun _ => .raise e) .raise id id))
      (fun f => by cases f <;> rfl)
      (fun e => by first | exact Sem.bind_eq_wrap _ _ | (show (do noteFrame e env; theTreesLotGoes e : Sem Unit).bind (fun _ => .raise e) = _; rw [Sem.bind_eq_wrap]))]
    exact h₃
end
section
variable {prog : Program} {w : World} {A : Around} {R : GenEnd} {Y : Protocol} {n : Nat} {s₀ : Shared} {fs : List Frame} {s : Shared} {env : Env}
theorem seg_block {stmts : List Stmt}
    (h : Seg (model prog w) A R Y n s₀ (.block stmts env) ((execs stmts env).wrap (fun f => .pure (.done f)) (fun e => (do noteFrame e env; theTreesLotGoes e : Sem Unit).wrap (fun _ => .raise e) .raise id id) id id) fs s) :
    Seg (model prog w) A R Y n s₀ (.block stmts env) ((model prog w).den (.block stmts env)) fs s := by
  show Seg _ A R Y n s₀ _ (((execs stmts env).onRaise (fun x => do noteFrame x env; theTreesLotGoes x)) >>= fun f => .pure (.done f)) fs s
  rw [Sem.onRaise_eq_wrap, Sem.bind_eq_wrap', Sem.wrap_wrap]
  rw [Sem.wrap_congr (execs stmts env) _ _ (K' := fun f => .pure (.done f)) (H' := (fun e => (do noteFrame e env; theTreesLotGoes e : Sem Unit).wrap (fun _ => .raise e) .raise id id))
    (fun f => by rfl)
    (fun e => by rw [Sem.bind_eq_wrap, Sem.wrap_wrap]; rfl)]
  exact h
end
end BkG
end PySem
namespace L2
open PySem PySem.Spec PyProof.Rows GenW
/-- for x in iter: body, within a generator -/
def tGFor (wi : TI) (g : TG) (tb : TGn) : TGn := fun D ys σ H => wi σ H fun J H1 => ∃ W : Nat → Nat → List V → St → Hp → Prop, (∃ m, W 0 m ys σ H1) ∧ ∀ i m ys σ H, W i m ys σ H →
  (J.stop i H ∧ D.nx ys σ H) ∨ (J.go i H ∧ ∃ N : List V → St → Hp → Prop, (∀ ys' σ' H', N ys' σ' H' → ∃ m', m' < m ∧ W (i + 1) m' ys' σ' H') ∧ ∀ x H', J.yld i H x H' → g x σ H' fun σ2 H2 => tb { D with nx := N, ct := N, bk := D.nx } ys σ2 H2)
theorem gs_for {X : Cx} {tg iter : Expr} {body : List Stmt} {pos : Pos} {wi : TI} {g : TG} {tb : TGn} (hp : PassesOwn (model X.prog X.w) X.A X.env X.xe) (hc : X.calm = true) (hi : PI X tg iter wi) (hg : PG X tg g) (hb : GSs X body tb)
    (hs : ∀ x, foldedSetIterable iter X.env x = pure x := by intro _; rfl) : GS X (.For tg iter body [] pos) (tGFor wi g tb) := by
  refine ⟨fun A S ip R n ys s₀ c fs K J gd lv s σ H D gc hn k hI ht => ?_⟩
  obtain ⟨acc0, cc0, r0, I0⟩ := hI
  refine PySem.BkG.seg_For hs ?_
  rw [gc.over]
  have eK : ∀ x s', X.xe x s' → Seg (model X.prog X.w) A R (GY X S) n s₀ c (J x) fs s' := fun x s' hx => k.exc n s₀ x s' hx
  refine wpAny_mono (hi.run _ s σ H _ I0 ht) (fun v s1 h1 => wpAny_mono h1 (fun itv s2 h2 p => ?_) eK) eK
  obtain ⟨it, fp, tn, J', H2, e, I2, T, st2, f2, W, ⟨m0, w0⟩, turn⟩ := h2
  subst e
  have gl := fun (cd : Code) (hw : cd.weight = 0) (hu : cd.cUnits = 0) (kk : Result → Sem PySem.Fin) => gc_loop (k := kk) (c' := cd) (l := lv []) (kp := []) (p := p) gc hw hu
  -- the iterator's objects are apart from the list at S
  have fpS : ∀ b ∈ fp, b ≠ S := fun b hb e => (f2 b hb).2.2.2.2.2 (S, lstObj acc0 cc0) (List.mem_append_right _ List.mem_cons_self) e.symm
  have stat : ∀ {acc : Array Value} {cc : Nat} {H' : Hp}, (∀ b ∈ fp, H' b = none) → ∀ b ∈ fp, FpOk X ((S, lstObj acc cc) :: ip) H' b := fun {acc cc H'} hn b hb => by
    obtain ⟨_, g1, g2, g3, g4, g5⟩ := f2 b hb
    refine ⟨hn b hb, g1, g2, g3, g4, fun q hq => ?_⟩
    rcases List.mem_append.mp hq with hq | hq
    · exact g5 q (List.mem_append_left _ hq)
    · rcases List.mem_cons.mp hq with hq | hq
      · rw [hq]
        exact g5 (S, lstObj acc0 cc0) (List.mem_append_right _ List.mem_cons_self)
      · exact g5 q (List.mem_append_right _ (List.mem_cons_of_mem _ hq))
  have loop : ∀ (m n : Nat) (ys : List V) (i : Nat) (s₀ s : Shared) (σ : St) (H : Hp), n + ys.length = sizeLine → W i m ys σ H → GI X S ip ys σ H s → tn i s.heap → (∀ b ∈ fp, H b = none) →
      Seg (model X.prog X.w) A R (GY X S) n s₀ (.forLoop tg (.ref it) body [] X.env) ((model X.prog X.w).den (.forLoop tg (.ref it) body [] X.env))
        (.ret (fun r => ((match r with | .ok f => (.pure f : Sem Flow) | .error e => .raise e).onRaise (cameBack X.env)).wrap K J gd lv) none (gd false) (lv []) c p [] :: fs) s := by
    intro m
    induction m using Nat.strongRecOn with
    | ind m ih =>
      intro n ys i s₀ s σ H hn w hI hst hfr
      have ee : ∀ (cd : Code) (hw : cd.weight = 0) (hu : cd.cUnits = 0) (n : Nat) (s₀ : Shared) (x : Value) (s' : Shared), X.xe x s' → Seg (model X.prog X.w) A R (GY X S) n s₀ cd
          ((do noteFrame x X.env; theTreesLotGoes x : Sem Unit).wrap (fun _ => .raise x) .raise id id)
          (.ret (fun r => ((match r with | .ok f => (.pure f : Sem Flow) | .error e => .raise e).onRaise (cameBack X.env)).wrap K J gd lv) none (gd false) (lv []) c p [] :: fs) s' := fun cd hw hu n s₀ x s' hx => by
        refine seg_wrap ?_
        rw [(gl cd hw hu _).over]
        refine wpAny_bind (wpAny_mono (hp x s' hx) (fun _ s'' hcb => wpAny_theTreesLotGoes ?_) fun y s'' hcb => ?_)
        · exact seg_leaf (.error x) (seg_cameBack gc k hcb)
        · exact seg_leaf (.error y) (seg_cameBack gc k hcb)
      refine PySem.BkG.seg_forLoop ?_
      rw [(gl _ rfl rfl _).over]
      obtain ⟨acc, cc, r, I⟩ := hI
      have e1 := fun (x : Value) (s' : Shared) (hx : X.xe x s') => ee (.forLoop tg (.ref it) body [] X.env) rfl rfl n s₀ x s' hx
      rcases turn i m ys σ H w with ⟨stop, qn⟩ | ⟨go, N, hN, step⟩
      · refine wpAny_mono (T.done X rfl rfl rfl hc i _ s σ H X.xe I (stat hfr) hst stop) (fun rv s4 ⟨hr, I4⟩ => ?_) e1
        subst hr
        refine seg_again rfl (PySem.BkG.seg_block (seg_execs_nil ?_))
        exact seg_leaf (.ok .next) (k.ok n ys s₀ s4 .next hn ⟨σ, H, ⟨acc, cc, r, I4⟩, qn⟩)
      · refine wpAny_mono (T.item X rfl rfl rfl hc i _ s σ H X.xe I (stat hfr) hst go) (fun rv s4 ⟨u, hr, h4⟩ => ?_) e1
        subst hr
        refine wpAny_mono h4 (fun _ s5 ⟨x, H5, I5, r5, y5, st5, fr5⟩ => ?_) e1
        have I5' := I5.pinned (stat fr5) (T.obj _ _ st5)
        refine wpAny_mono (hg.run _ s5 σ H5 x u _ I5' r5 (step x H5 y5)) (fun _ s6 ⟨σ6, H6, I6, q6⟩ => ?_) e1
        have gi : GC X S (ip ++ pinsAt fp s5.heap) A (.forLoop tg (.ref it) body [] X.env) (.ret (fun r => ((match r with | .ok f => (.pure f : Sem Flow) | .error e => .raise e).onRaise (cameBack X.env)).wrap K J gd lv) none (gd false) (lv []) c p [] :: fs) id := by
          obtain ⟨a1, a2, a3, a4, a5, a6, a7⟩ := gl (.forLoop tg (.ref it) body [] X.env) rfl rfl (fun r => ((match r with | .ok f => (.pure f : Sem Flow) | .error e => .raise e).onRaise (cameBack X.env)).wrap K J gd lv)
          refine ⟨a1, fun q hq => ?_, a3, a4, a5, a6, a7⟩
          rcases List.mem_append.mp hq with hq | hq
          · exact a2 q hq
          · exact fpS _ (of_pinsAt hq).1
        have again : ∀ {n' : Nat} {ys' : List V} {s₀' s7 : Shared}, n' + ys'.length = sizeLine → (∃ σ7 H7, GI X S (ip ++ pinsAt fp s5.heap) ys' σ7 H7 s7 ∧ N ys' σ7 H7) → Seg (model X.prog X.w) A R (GY X S) n' s₀' (.forLoop tg (.ref it) body [] X.env) (.pure (.again (.forLoop tg (.ref it) body [] X.env)))
            (.ret (fun r => ((match r with | .ok f => (.pure f : Sem Flow) | .error e => .raise e).onRaise (cameBack X.env)).wrap K J gd lv) none (gd false) (lv []) c p [] :: fs) s7 := by
          rintro n' ys' s₀' s7 hn' ⟨σ7, H7, ⟨acc7, cc7, r7, I7⟩, n7⟩
          obtain ⟨m', hm, w7⟩ := hN ys' σ7 H7 n7
          have pin : ∀ b ∈ fp, ∀ o, s5.heap.get? b = some o → s7.heap.get? b = some o ∧ H7 b = none := fun b hb o e => by
            have z := I7.pin (b, o) (List.mem_append_right _ (List.mem_cons_of_mem _ (List.mem_append_right _ (mem_pinsAt hb e))))
            exact ⟨z.1, z.2.1⟩
          refine seg_again rfl (ih m' hm n' ys' (i + 1) s₀' s7 σ7 H7 hn' w7 ⟨acc7, cc7, r7, ?_⟩ (T.keep _ _ _ st5 fun b hb o e => (pin b hb o e).1) fun b hb => ?_)
          · exact Inv.unpinned (pins := (S, lstObj acc7 cc7) :: ip) (pl := pinsAt fp s5.heap) I7
          · obtain ⟨o, e, d⟩ := T.obj _ _ st5 b hb
            exact (pin b hb o e).2
        refine hb.run A S (ip ++ pinsAt fp s5.heap) R n ys s₀ _ _ _ _ id id s6 σ6 H6 { D with nx := N, ct := N, bk := D.nx } gi hn ⟨fun n' ys' s₀' s7 f hn' hs => ?_, fun n' s₀' x s7 hx => ee _ rfl rfl n' s₀' x s7 hx⟩ ⟨acc, cc, r, I6⟩ q6
        have un : ∀ {ys' : List V} {σ7 : St} {H7 : Hp}, GI X S (ip ++ pinsAt fp s5.heap) ys' σ7 H7 s7 → GI X S ip ys' σ7 H7 s7 := fun ⟨a7, c7, r7, I7⟩ => ⟨a7, c7, r7, Inv.unpinned (pins := (S, lstObj a7 c7) :: ip) (pl := pinsAt fp s5.heap) I7⟩
        cases f with
        | next => exact again hn' hs
        | cont => exact again hn' hs
        | brk =>
          obtain ⟨σ7, H7, I7, q7⟩ := hs
          exact seg_leaf (.ok .next) (k.ok n' ys' s₀' s7 .next hn' ⟨σ7, H7, un I7, q7⟩)
        | ret v =>
          obtain ⟨v7, σ7, H7, I7, r7, q7⟩ := hs
          exact seg_leaf (.ok (.ret v)) (k.ok n' ys' s₀' s7 (.ret v) hn' ⟨v7, σ7, H7, un I7, r7, q7⟩)
  exact loop m0 n ys 0 s₀ s2 σ H2 hn w0 ⟨acc0, cc0, r0, I2⟩ st2 fun b hb => (f2 b hb).1
/-- .. whatever it runs over, by what stands after each turn -/
theorem gfor_it {J : It} {n : Nat} {G : Hp → Prop} {Y : Nat → Hp → V → Hp → Prop} (w : Walk J n G Y) {g : TG} {tb : TGn} {D : GEnds} {ys : List V} {σ : St} {H : Hp} (Pv : Nat → List V → St → Hp → Prop) (h0 : Pv 0 ys σ H) (hG : ∀ i ys σ H, i ≤ n → Pv i ys σ H → G H)
    (hs : ∀ i x ys σ H H', i < n → Pv i ys σ H → Y i H x H' → g x σ H' fun σ2 H2 => tb { D with nx := Pv (i + 1), ct := Pv (i + 1), bk := D.nx } ys σ2 H2) (hd : ∀ ys σ H, Pv n ys σ H → D.nx ys σ H) :
    ∃ W : Nat → Nat → List V → St → Hp → Prop, (∃ m, W 0 m ys σ H) ∧ ∀ i m ys σ H, W i m ys σ H →
      (J.stop i H ∧ D.nx ys σ H) ∨ (J.go i H ∧ ∃ N : List V → St → Hp → Prop, (∀ ys' σ' H', N ys' σ' H' → ∃ m', m' < m ∧ W (i + 1) m' ys' σ' H') ∧ ∀ x H', J.yld i H x H' → g x σ H' fun σ2 H2 => tb { D with nx := N, ct := N, bk := D.nx } ys σ2 H2) := by
  refine ⟨fun i m ys σ H => m = n - i ∧ i ≤ n ∧ Pv i ys σ H, ⟨n, by simp, Nat.zero_le _, h0⟩, ?_⟩
  rintro i m ys σ H ⟨rfl, hi, p⟩
  have q := hG i ys σ H hi p
  by_cases hlt : i < n
  · refine .inr ⟨w.goes i H hlt q, Pv (i + 1), fun ys' σ' H' p' => ⟨n - (i + 1), by omega, rfl, hlt, p'⟩, fun x H' y => ?_⟩
    exact hs i x ys σ H H' hlt p (w.yields i H x H' hlt q y)
  · have e : i = n := by omega
    subst e
    exact .inl ⟨w.stops H q, hd ys σ H p⟩
end L2
set_option Elab.async false
set_option linter.all false
set_option maxRecDepth 100000
set_option maxHeartbeats 2000000
namespace Bk
open PySem PySem.Spec PyProof.Rows L2
theorem vals_of : ∀ (xs : List V) (us : List Value), xs.length = us.length → (∀ (i : Nat) (x : V) (u : Value), xs[i]? = some x → us[i]? = some u → RelV x u) → Vals xs us
  | [], [], _, _ => .nil
  | [], _ :: _, h, _ => by cases h
  | _ :: _, [], h, _ => by cases h
  | x :: xs, u :: us, h, r => .cons (r 0 x u rfl rfl) (vals_of xs us (by simpa using h) fun i y v hy hv => r (i + 1) y v hy hv)
/-- list(e.values()) -/
def tListVals (te : TE) : TE := fun σ H Q => te σ H fun x H1 => ∃ (d : Addr) (kvs : List (Key × V)), x = .ref d ∧ H1 d = some (.dK kvs) ∧ kvs.length ≤ 1000 ∧ ∀ p, H1 p = none → Q (.ref p) (upd H1 p (.lst (kvs.map (·.2))))
theorem pe_listVals {X : Cx} {e : Expr} {te : TE} {p apos cpos pos : Pos} (hc : X.calm = true) (he : PE X e te) (hg : Gl X "list") (hm : X.mg "list" = none) (hv : bootBuiltins "list" = some (.type "list")) (hbase : attributeBase e "values" X.env (eval e X.env) = eval e X.env := by rfl) (hline : (apos.endLine == cpos.line) = true := by rfl)
    (hs : starEach [.Call (.Attribute e "values" apos) [] [] cpos] X.env = (false, eval (.Call (.Attribute e "values" apos) [] [] cpos) X.env) :: starEach [] X.env := by rfl) :
    PE X (.Call (.Name "list" p) [.Call (.Attribute e "values" apos) [] [] cpos] [] pos) (tListVals te) := by
  refine ⟨fun pins s σ H Q I hq => ?_⟩
  refine wpAny_Call_Name_kw (ld_blt I hg hm hv ?_)
  refine PyProof.Rows.callWith_type1 ?_ hs rfl
  rw [hs]
  show wpAny _ _ (spliced ((false, eval (.Call (.Attribute e "values" apos) [] [] cpos) X.env) :: backTo pos (starEach [] X.env))) _ _ s
  refine Calls.spliced_cons ?_
  refine wpAny_Call_method0_late hbase hline (thn (he.run pins s σ H _ I hq) fun v s1 ⟨x, H1, I1, r1, a, kvs, ex, ha, hl, q⟩ => ?_)
  subst ex
  obtain rfl : v = Value.ref a := r1
  obtain ⟨_, hsys, vs, rel, dof⟩ := dk_of I1.hok ha
  obtain ⟨ep, dat⟩ := dof.dictAt
  have dat' := dat
  obtain ⟨ob, es, ho, ex, hdat, hko, hpr, hnd⟩ := dat'
  refine ⟨"dict", "dict.values", F.plainAttrs_dict, F.slot_dict_values, F.type_dict_values, ⟨ob, ho, ex.1⟩, fun b e => ?_, Calls.callWith_builtin rfl (PySem.evalArgs_none ?_)⟩
  · cases e
    exact ⟨ob, ho, ex.2.1⟩
  refine call_meetsIn F.slot_dict_values ⟨ob, ho, ex.1⟩ F.entry_dict_values (F.args_dict_values_1 _) (meets_dict_values (mixKind X.prog X.w) a hsys) ⟨⟨vs, dof⟩, ?_⟩
  have k1 : ∀ b u, s1.heap.get? b = some u → (s1.heap.push { cls := .type "dict_values", data := .fields #[.ref a] }).get? b = some u := fun b u e => Heap.get?_push_of_some _ e
  have dat1 : (s1.heap.push { cls := .type "dict_values", data := .fields #[.ref a] }).DictAt (mixKind X.prog X.w) a vs ep := dat.keep k1
  have lk : kvs.length = vs.length := KV.length rel
  refine Calls.spliced_nil ?_
  refine PySem.W.kdl_call (PySem.W.kdl_values (knd := mixKind X.prog X.w) (kvs := vs) (ep := ep)) (I1.ok.hd hc) ⟨⟨_, Heap.get?_push_size _ rfl, rfl, rfl⟩, dat1⟩ (by rw [← lk]; exact Nat.le_trans hl (by decide)) fun h' tk acc c hk hS hacc => ?_
  have hv2 : Vals (kvs.map (·.2)) acc.toList := by
    refine vals_of _ _ ?_ fun i x u hx hu => ?_
    · have h1 : acc.toList.length = vs.length := by rw [Array.length_toList]; exact hacc.1
      rw [List.length_map, h1]
      exact lk
    · obtain ⟨k, hk2⟩ := hacc.2 i u (by rw [← Array.getElem?_toList]; exact hu)
      obtain ⟨y, y1, y2⟩ := KV.at' rel hk2
      rw [List.getElem?_map, y1] at hx
      cases Option.some.inj hx
      exact y2
  have hsz : s1.heap.objs.size ≤ (s1.heap.push { cls := .type "dict_values", data := .fields #[.ref a] }).objs.size := by rw [Heap.size_push]; exact Nat.le_succ _
  have I2 : Inv X pins σ (upd H1 (s1.heap.push { cls := .type "dict_values", data := .fields #[.ref a] }).objs.size (.lst (kvs.map (·.2)))) { s1 with heap := h', toks := tk } :=
    I1.laid (t' := tk) (fun b o e => hk _ _ (k1 b o e)) hsz ⟨by rw [List.length_map]; exact Nat.le_trans hl (by decide), acc.toList, c, hv2, by rw [Array.toArray_toList]; exact hS⟩
  exact ⟨.ref _, _, I2, rfl, q _ (I1.hok.fresh hsz)⟩
end Bk
set_option Elab.async false
set_option linter.all false
set_option maxRecDepth 100000
set_option maxHeartbeats 2000000
namespace Bk
open PySem PySem.Spec PySem.W PySem.Calls PyProof.Rows L2 NwA
/-- a class whose __init__ is object's -/
structure Bare (K : PySem.W.Frag) (mg : Str → Option Value) (x : Str) (C : Addr) : Prop where
  mks : PySem.W.makesIn K C = true
  init : PySem.W.findIn K (.ref C) "__init__" = some (some (.builtin "object.__init__"))
  top : PySem.W.mroIn K C (.type "object") = some true
  kp : PySem.W.keepIn K (.ref C) = true
  mg : mg x = some (.ref C)
def tBare (C : Addr) : TE := fun σ H Q => ∀ a dx, H a = none → H dx = none → dx ≠ a → Q (.ref a) (upd (upd H dx (.own a)) a (.ins C dx []))
theorem pe_bare {X : Cx} {C : Addr} {x : Str} {p pos : Pos} (B : Bare X.K X.mg x C) (hg : Gl X x) (hdb : (x == ("__debug__" : Str)) = false := by decide) : PE X (.Call (.Name x p) [] [] pos) (tBare C) := by
  refine ⟨fun pins s σ H Q I h => ?_⟩
  refine wpAny_Call_Name_kw (ld_glob I hg B.mg ?_ hdb)
  refine PySem.W.callWith_K0 I.kIn B.kp ?_
  have hq := h (s.heap.objs.size + 1) s.heap.objs.size (I.hok.fresh (Nat.le_succ _)) (I.hok.fresh (Nat.le_refl _)) (Nat.ne_of_lt (Nat.lt_succ_self _))
  have I2 := Inv.made (C := C) I
  refine wpAny_call (make_map0 I.kIn B.mks B.init (fun self => Looks.of_pure (oi_bind self)) ?_)
  have ho : ((s.heap.push PySem.W.emptyDict).push (PySem.W.instObj C s.heap.objs.size)).get? (s.heap.objs.size + 1) = some (PySem.W.instObj C s.heap.objs.size) := by heap_get
  have t1 : Looks (model X.prog X.w) ((s.heap.push PySem.W.emptyDict).push (PySem.W.instObj C s.heap.objs.size)) (typeOf (.ref (s.heap.objs.size + 1))) (.ref C) := type_at ho rfl
  have t2 : Looks (model X.prog X.w) ((s.heap.push PySem.W.emptyDict).push (PySem.W.instObj C s.heap.objs.size)) (isInstance (.ref (s.heap.objs.size + 1)) (.type "object")) true := t1.andThen (looks_mroIn I2.kIn B.top)
  refine codeAny_call_builtin oi_plain entry_oi (@check_slot (model X.prog X.w) _ _ _ "object.__init__" "object" "__init__" (.ref (s.heap.objs.size + 1)) [] [] _ oi_kind oi_split t2 (oi_args_any (.ref (s.heap.objs.size + 1)) [] []) ?_)
  rw [oi_run]
  exact wpAny_pure ⟨rfl, V.ref (s.heap.objs.size + 1), _, I2, rfl, hq⟩
end Bk
set_option Elab.async false
set_option linter.all false
set_option maxRecDepth 100000
set_option maxHeartbeats 2000000
namespace Bk
open PySem PySem.Spec PyProof.Rows L2 LamX
/-! ### a caught error of any own class, in its suite -/
/-- the caught error's dict, if there is one, is told -/
def DictOf (H : Hp) (d : Option Addr) : Prop := d = none ∨ ∃ (dd : Addr) (fs : List (Str × V)), d = some dd ∧ H dd = some (.xd fs)
theorem inst_any {X : Cx} {a D : Addr} {d : Option Addr} {oe : Obj} {pins : List (Addr × Obj)} {σ : L2.St} {H : Hp} {s : Shared} (I : Inv X pins σ H s) (hget : s.heap.get? a = some oe) (hz : Zc (.ref D) d oe) (hf : ∃ vs, oe.data = .fields vs) (hd : DictOf H d) :
    ∃ od, PySem.W.InstAt s.heap a oe D od := by
  obtain ⟨vs, hv⟩ := hf
  have hno : PySem.W.notCls oe = true := by unfold PySem.W.notCls; rw [hv] <;> rfl
  rcases hd with e | ⟨dd, fs, e, ea⟩
  · refine ⟨none, hget, hz.1, hno, ?_⟩
    rw [hz.2, e]
    trivial
  · have hx : ObjOk X.prog X.w H s.heap dd (.xd fs) := I.hok dd _ ea
    obtain ⟨mA, hns, _⟩ := hx
    obtain ⟨od, ho, _⟩ := lookIn_ns hns
    refine ⟨some od, hget, hz.1, hno, ?_⟩
    rw [hz.2, e]
    exact ho
/-- isinstance(e, c), e the caught error of the class cls -/
def rIsG (K : PySem.W.Frag) (cls : Value) (d : Option Addr) (a : Addr) : List V → Hp → VK → Prop := fun xs H Q => ∃ (D : Addr) (c : V) (cv : Value) (b : Bool), cls = .ref D ∧ ExcC K D ∧ xs = [.ref a, c] ∧ (∀ u, L2.RelV c u → u = cv) ∧ PySem.W.kitOne K (.ref D) cv = some b ∧ DictOf H d ∧ Q (.bl b) H
theorem call_isG {X : Cx} {a : Addr} {cls : Value} {d : Option Addr} {oe : Obj} {pn : List (Addr × Obj)} (hz : Zc cls d oe) (hf : ∃ vs, oe.data = .fields vs) : CallR (X.suite a ((a, oe) :: pn)) (.builtin "isinstance") (rIsG X.K cls d a) := by
  intro pins s σ H xs us Q I r h
  obtain ⟨D, c, cv, b, rfl, C, rfl, hcv, e, hd, q⟩ := h
  match us, r with
  | [_, _], .cons rx (.cons rt .nil) =>
    cases rx
    have ec := hcv _ rt
    subst ec
    obtain ⟨hget, _⟩ := I.pin (a, oe) (List.mem_append_left _ List.mem_cons_self)
    obtain ⟨od, J⟩ := inst_any I hget hz hf hd
    obtain ⟨cd, hc, _⟩ := PySem.W.any_some C.hd
    refine PySem.W.kia_one (PySem.W.kitx_exc (by rw [hc]; rfl) C.hg C.hk C.hs C.ha C.hn C.ht C.hm) I.kIn J e (fun z => nomatch z) fun tk => ?_
    exact ⟨.bl b, H, I.kept (t' := tk) fun _ _ z => z, rfl, q⟩
/-- e.n of the caught error -/
def tXg (K : PySem.W.Frag) (a : Addr) (cls : Value) (d : Option Addr) (f : Str) (te : TE) : TE := fun σ H Q => te σ H fun x H1 => x = .ref a ∧ ∃ C : Addr, XfC K C ∧ PySem.W.findIn K (.ref C) f = some none ∧ cls = .ref C ∧ ∃ (dd : Addr) (fs : List (Str × V)) (v : V), d = some dd ∧ H1 dd = some (.xd fs) ∧ fs.lookup f = some v ∧ Q v H1
theorem pe_xg {X : Cx} {a : Addr} {oe : Obj} {cls : Value} {d : Option Addr} {pn : List (Addr × Obj)} {e : Expr} {te : TE} {pos : Pos} {n : Str} (hz : Zc cls d oe) (hf : ∃ vs, oe.data = .fields vs) (he : PE (X.suite a ((a, oe) :: pn)) e te)
    (hb : attributeBase e n X.env (eval e X.env) = eval e X.env := by rfl) : PE (X.suite a ((a, oe) :: pn)) (.Attribute e n pos) (tXg X.K a cls d n te) := by
  refine ⟨fun pins s σ H Q I h => ?_⟩
  refine attr_of hb (thn (he.run pins s σ H _ I h) fun u s1 hh => ?_)
  obtain ⟨x, H1, I1, rx, ex, C, T, hno, ec, dd, fs, v, ed, ea, l, q⟩ := hh
  subst ex ec ed
  obtain rfl : u = Value.ref a := rx
  obtain ⟨ha, _⟩ := I1.pin (a, oe) (List.mem_append_left _ List.mem_cons_self)
  obtain ⟨vs, hd⟩ := hf
  obtain ⟨mA, hns, hr⟩ : ObjOk X.prog X.w H1 s1.heap dd (.xd fs) := I1.hok dd _ ea
  obtain ⟨od, ho, hl⟩ := lookIn_ns hns
  obtain ⟨u, hu, ru⟩ := RelO.some_of (v := v) (o := mA n) (by rw [← l]; exact hr n)
  have hno2 : PySem.W.notCls oe = true := by unfold PySem.W.notCls; rw [hd] <;> rfl
  have J : PySem.W.InstAt s1.heap a oe C (some od) := ⟨ha, hz.1, hno2, by rw [hz.2]; exact ho⟩
  have hown : PySem.W.findObj X.K C (some od) n = _ := PySem.W.findObj_own T.hdC hno rfl (by rw [hl, hu])
  exact HandSPX.exc_get I1.kIn J T.ga T.gg T.exC hown (handed_of ru) ⟨v, H1, I1.tok _, ru, q⟩
/-! ### list.count of flat items -/
def rCntF (K : PySem.W.Frag) : V → List V → Hp → VK → Prop := fun x xs H Q => ∃ (p : Addr) (ys : List V) (y : V), x = .ref p ∧ xs = [y] ∧ SqL K H p ys ∧ flatV y = true ∧ ys.all flatV = true ∧ Q (.int (ys.countP fun z => eqV z y : Nat)) H
theorem count_eqU {y : V} : ∀ {ys : List V} {us : List Value}, Vals ys us → ys.all flatV = true → us.countP (eqU y) = ys.countP fun z => eqV z y
  | _, _, .nil, _ => rfl
  | _, _, .cons r t, f => by
    rw [List.all_cons, Bool.and_eq_true] at f
    rw [List.countP_cons, List.countP_cons, count_eqU t f.2, eqU_of r f.1]
theorem mt_countF {X : Cx} : MtR X "list.count" (rCntF X.K) := by
  intro pins s σ H x xs v us Q I rx rxs h
  obtain ⟨p, ys, y, rfl, rfl, hs, fy, fys, q⟩ := h
  cases rx
  obtain ⟨u, rfl, ru⟩ := rxs.one
  obtain ⟨its, rv, ⟨⟨cls, dd, data, sl⟩, n, ho, hc, hdn, hd⟩, hlen⟩ := I.list hs
  simp only at hc hd
  subst hc hd
  refine call_meets PySem.F.slot_list_count ⟨_, ho, rfl⟩ PySem.F.entry_list_count (PySem.F.args_list_count_2 _ _) (SeqAt.list_countAt p its.toArray n dd sl u (eqU y)) ⟨ho, fun z hz => ?_, ?_⟩
  · exact mem_eqAt ru fy rv fys z (by simpa using hz)
  · have ec : its.toArray.toList.countP (eqU y) = ys.countP fun z => eqV z y := by rw [List.toList_toArray]; exact count_eqU rv fys
    refine ⟨.int (ys.countP fun z => eqV z y : Nat), H, I.tok _, ⟨s.toks, ?_⟩, q⟩
    rw [ec]
/-! ### try: return (text, a()); except x as n: suite -/
def TTvs (K : PySem.W.Frag) (z : Str) (CS : Addr) (N : List Str) (i : Nat) (ts : Addr → Value → Option Addr → TS) : (XK → Hp → VK → Prop) → Hp → VK → Prop := fun tl H Q =>
  tl (fun cls d H' => ∃ b, PySem.W.exmOne K cls (.ref CS) = some b ∧ (b = true → ∀ (a : Addr) (σ : L2.St), σ.length = N.length → H' a = none → ts a cls d { nx := fun _ H' => Q .non H', rt := Q } (σ.set i (some (.ref a))) H') ∧ (b = false → False)) H
    fun v H1 => [V.str z, v].length ≤ sizeLine ∧ ∀ p, H1 p = none → Q (.ref p) (upd H1 p (.tup [.str z, v]))
theorem as_givesV {X : Cx} {Ng : List Str} {x a e n q z : Str} {sg : Scope} {g CS : Addr} {cdg : Value} {i j k6 : Nat} {b₀ : Stmt} {suite : List Stmt} {ts : Addr → Value → Option Addr → TS} {p1 p2 p3 p4 p5 p6 p7 p8 : Pos} (hge : sg.names.lookup e = some .globalImplicit) (hme : X.mg e = some (.ref CS)) (hde : (e == ("__debug__" : Str)) = false)
    (h0 : ∀ f : Addr, (L2.start Ng [V.ref f])[0]? = some (some (V.ref f))) (hnd : Ng.Nodup) (hi : Ng[i]? = some n) (hln : sg.names.lookup n = some .local)
    (hsu : ∀ (s : Shared) (H : Hp) (b : Addr) (oe : Obj) (cls : Value) (d : Option Addr) (pn : List (Addr × Obj)), Zc cls d oe → (∃ vs, oe.data = .fields vs) →
      PSs ((cxOf C8.CX0 X.prog X.w X.K X.mg X.base Ng x sg g cdg X.A X.stack s H C8.E0).nox.suite b ((b, oe) :: pn)) (b₀ :: suite) (ts b cls d)) :
    GivesTo X Ng x sg g cdg [.Try [.Return (some (.Tuple [.Constant (.str z) j p5, .Call (.Name a p1) [] [] p2] k6 p6)) p3] [.ExceptHandler (some (.Name e p4)) (some n) (b₀ :: suite) p7] [] [] p8] a q (TTvs X.K z CS Ng i ts) := by
  intro f c' s H Q tl act hc h
  have hgl : Gl (cxOf C8.CX0 X.prog X.w X.K X.mg X.base Ng x sg g cdg X.A X.stack s H C8.E0).nox e := hge
  refine ⟨_, pss_one (ps_try_as (X := (cxOf C8.CX0 X.prog X.w X.K X.mg X.base Ng x sg g cdg X.A X.stack s H C8.E0).nox) (c := .ref CS) (i := i)
      (tb := fun W D σ H => ∃ Ech : XK, (∀ cls d (σ' : L2.St) H', σ'.length = Ng.length → Ech cls d H' → W cls d σ' H') ∧ σ[0]? = some (some (.ref f)) ∧ H c' = some (CodeO c' q) ∧ tl Ech H fun v H1 => [V.str z, v].length ≤ sizeLine ∧ ∀ p, H1 p = none → D.rt (.ref p) (upd H1 p (.tup [.str z, v])))
      rfl rfl hnd hi hln ⟨hgl, hde, .inl hme⟩ LamX.takes0 (fun W pn xe tk _ => ?_) (fun b oe cls d pn hz hf => hsu s H b oe cls d pn hz hf)), ?_⟩
  · refine ⟨fun pins s' σ H' D I h' => ?_⟩
    obtain ⟨Ech, hW, h1, h2, h3⟩ := h'
    have hp := act (fun cls d σ H => σ.length = Ng.length → W cls d σ H) pn xe Ech p1 p2 (takes_len tk) (fun cls d σ' H' he hl => hW cls d σ' H' hl he)
    have hq := pss_one (ps_ret (pos := p3) (pe_tup (x1 := k6) (pos := p6) (pa_cons (pe_str (x := z) (j := j) (pos := p5)) (pa_cons hp pa_nil))))
    exact hq.run pins s' σ H' D I ⟨h1, h2, h3⟩
  · exact ⟨fun cls d H' => ∃ b, PySem.W.exmOne X.K cls (.ref CS) = some b ∧ (b = true → ∀ (a : Addr) (σ : L2.St), σ.length = Ng.length → H' a = none → ts a cls d { nx := fun _ H' => Q .non H', rt := Q } (σ.set i (some (.ref a))) H') ∧ (b = false → False),
      fun cls d σ' H' hl ⟨b, e1, e2, e3⟩ => ⟨b, e1, fun hb a ha => e2 hb a σ' hl ha, fun hb => e3 hb⟩, h0 f, hc, h⟩
end Bk
set_option Elab.async false
set_option linter.all false
set_option maxRecDepth 100000
set_option maxHeartbeats 2000000
namespace Bk
open PySem PySem.Spec PyProof.Rows L2
/-! ### methods that may raise -/
structure CalleeMX (P : Program) (w : World) (K : PySem.W.Frag) (mg : Str → Option Value) (base : Heap) (C : Addr) (m : Str) (k : Nat) (sp : Sp) : Prop where
  ex : ∃ (f : Addr) (fd : FuncData) (ps : List Str), Meth K C m f ∧ Cls K C ∧ Binds K fd ps [] ∧ FnOk P w K mg base (L2.CX P w) k f fd ps sp
section
variable {X : Cx} {EE : XK} {k : Nat} {sp : Sp} {m : Str} {pos apos : Pos} {e o : Expr} {es : List Expr} {t : TA} {ta : TE} {C : Addr}
theorem pe_methFX {pl : Sem Bool} (c : CalleeMX X.prog X.w X.K X.mg X.base C m k sp) (tk : Takes X (fun cls d _ H => EE cls d H)) (hr : Room k X.A) (he : PE X o ta) (ha : PA X (e :: es) t)
    (hst : starEach (e :: es) X.env = (false, eval e X.env) :: starEach es X.env := by rfl) (hpl : (backTo pos (starEach es X.env)).any (·.1) = false := by rfl)
    (ht : eval (.Call (.Attribute o m apos) (e :: es) [] pos) X.env = (do
      let ov ← eval o X.env
      standAt apos.atName
      let (f, first) ← holding [ov] (getMethod ov m pl)
      callWith pos f first (backTo pos (starEach (e :: es) X.env)) (backToKw pos (keywordEach [] X.env))) := by rfl) :
    PE X (.Call (.Attribute o m apos) (e :: es) [] pos) (tMeth C m sp [] EE ta t) := by
  obtain ⟨f, fd, ps, h1, h2, h3, h4⟩ := c.ex
  exact pe_meth he h2 h1 h4 hr h3 .nil (passes_call tk fun _ _ _ _ h => h) ha hst hpl ht
theorem pe_methFX0 {pl : Sem Bool} (c : CalleeMX X.prog X.w X.K X.mg X.base C m k sp) (tk : Takes X (fun cls d _ H => EE cls d H)) (hr : Room k X.A) (he : PE X o ta)
    (ht : eval (.Call (.Attribute o m apos) [] [] pos) X.env = (do
      let ov ← eval o X.env
      standAt apos.atName
      let (f, first) ← holding [ov] (getMethod ov m pl)
      callWith pos f first (backTo pos (starEach [] X.env)) (backToKw pos (keywordEach [] X.env))) := by rfl) :
    PE X (.Call (.Attribute o m apos) [] [] pos) (tMeth C m sp [] EE ta tNil) := by
  obtain ⟨f, fd, ps, h1, h2, h3, h4⟩ := c.ex
  exact pe_meth0 he h2 h1 h4 hr h3 .nil (passes_call tk fun _ _ _ _ h => h) ht
end
end Bk
set_option Elab.async false
set_option linter.all false
set_option maxRecDepth 100000
set_option maxHeartbeats 4000000
namespace Bk
open PySem PySem.Spec PyProof.Rows L2
/-! ### a list comprehension whose element may raise -/
section
variable {M : Model} {A : Around} {E : Value → Shared → Prop} {s : Shared} {Z : Obj → Prop} {base : Heap} {env : Env} {outer : List Env} {L e : Addr}
/-- a frame notes what flies or what another place holds -/
theorem look_flZ {fl : Value} {Q : Unit → Shared → Prop} (hZ : HandSPX.Steady Z) (hfr : A.frames = some (env :: outer)) (hf : env.frame = some L) (hkb : base.StaysIn s.heap) (hen : base.get? e = none) (hl : s.heap.FunFrames base (env :: outer)) (ht : HandSPX.TracedZ s.heap base e Z fl)
    (hQ : ∀ h', HandSPX.HeldZ base (env :: outer) e Z L h' → s.heap.UpToSlots h' → Q () { s with heap := h' }) : wpAny M A (noteFrame (.ref e) env) Q E s := by
  by_cases hq : fl = rawInt L
  · subst hq
    exact HandSPX.againZ hf ht (hQ s.heap ⟨hkb, hen, hl, ht⟩ (Heap.UpToSlots.refl _))
  obtain ⟨oe, vs, T, oT, ts, he, hz, hd, h1, hnT, hTe, hT, hdT, h3⟩ := ht
  unfold noteFrame
  simp only [hf]
  refine wpAny_bind (wpAny_field he hd h1 ?_)
  rw [if_pos (show (Value.ref T != Value.none) = true from by simp)]
  refine wpAny_bind (wpAny_field hT hdT h3 ?_)
  rw [if_neg (show ¬ ((fl == rawInt L) = true) from by simpa using hq)]
  refine wpAny_bind (wpAny_setField hT hdT (Array.getElem?_eq_some_iff.mp h3).1 ?_)
  have other : ∀ b, b ≠ T → (s.heap.update T (Obj.mapFields (·.setIfInBounds 3 Value.none))).get? b = s.heap.get? b := fun b hb => Heap.get?_update_other _ _ (Ne.symm hb)
  have noRecord : ∀ b o, s.heap.get? b = some o → (∀ vs, o.data ≠ .fields vs) → b ≠ T := fun b o hb hnf q => by
    rw [q, hT] at hb; injection hb with hb; subst hb; exact hnf ts hdT
  refine HandSPX.wpAny_entryZ hZ hfr (hl.of_keeps fun b o hb hnf => ⟨o, (other b (noRecord b o hb hnf)).trans hb, rfl⟩) hf ((other e (Ne.symm hTe)).trans he)
    (fun b o hbo => (other b fun q => by rw [q, hnT] at hbo; cases hbo).trans (hkb b o hbo)) hen hd (Array.getElem?_eq_some_iff.mp h1).1 hz fun h' hN => ?_
  obtain ⟨x1, x2, x3, x4⟩ := hN
  exact hQ h' ⟨x1, hen, x2, x3⟩ fun b o hb hnf => x4 b o ((other b (noRecord b o hb hnf)).trans hb) hnf
end
theorem ff_but {h h' B : Heap} {C : Addr} : ∀ {l : List Env}, C ∉ frs l → (∀ b, b ≠ C → h'.get? b = h.get? b) → h.FunFrames B l → h'.FunFrames B l
  | [], _, _, _ => trivial
  | env :: l, hC, k, ⟨hk, ⟨L, o, hf, hb, ho, hd⟩, hr⟩ => by
    have hm : L ∈ frs (env :: l) := List.mem_filterMap.mpr ⟨env, List.mem_cons_self, hf⟩
    refine ⟨hk, ⟨L, o, hf, hb, (k L fun z => hC (z ▸ hm)).trans ho, hd⟩, ff_but (fun z => hC ?_) k hr⟩
    obtain ⟨e, he, q⟩ := List.mem_filterMap.mp z
    exact List.mem_filterMap.mpr ⟨e, List.mem_cons_of_mem _ he, q⟩
section
variable {X : Cx} {pins : List (Addr × Obj)} {σ : L2.St} {H : Hp} {sI s s' : Shared} {B : Heap} {W : WX}
/-- an exception out of a block of names at C: noted, C let go, then it is in the def's air -/
theorem comp_fails {a C : Addr} {cls : Value} {d : Option Addr} {L : Addr} {ce : Env} {m : Str → Option Value} {E₁ : Value → Shared → Prop} (hs : X.stack = X.env :: X.outer) (hf : X.env.frame = some X.env.locals) (tk : Takes X W)
    (hcf : ce.frame = X.env.frame) (hcl : ce.locals = C) (I : Inv X pins σ H sI) (hC : FpOk X pins H C) (hCn : sI.heap.Ns C m) (nb : ∀ b o, sI.heap.get? b = some o → b ∉ frs X.stack → B.get? b = some o) (up : sI.heap.UpToSlots s'.heap)
    (sky : Sky B X.stack a (Zc cls d) L s'.heap) (na : H a = none) (os : s'.os = sI.os) (ag : AllBare s'.gens) (w : W cls d σ H) :
    wpAny (model X.prog X.w) X.A (noteFrame (.ref a) ce) (fun _ s2 => CompFails (model X.prog X.w) X.A X.xe ce (.ref a) s2) E₁ s' := by
  have hfr : X.A.frames = some (X.env :: X.outer) := by rw [I.ok.frames, hs]
  have hnote : noteFrame (.ref a) ce = noteFrame (.ref a) X.env := by unfold noteFrame PySem.frameOf; rw [hcf]
  rw [hnote]
  obtain ⟨oC, es, ep, hoC, hdC, hrC⟩ := hCn
  have cF : C ∉ frs X.stack := fun z => by
    rcases List.mem_cons.mp (I.stkSub C z) with z | z
    · exact hC.2.1 z
    · exact hC.2.2.1 z
  have hBC := nb C oC hoC cF
  have fin : ∀ h1, HandSPX.HeldZ B X.stack a (Zc cls d) X.env.locals h1 → s'.heap.UpToSlots h1 → CompFails (model X.prog X.w) X.A X.xe ce (.ref a) { s' with heap := h1 } := fun h1 hh up1 => by
    obtain ⟨k1, k2, k3, oe, vs, T, oT, ts, he, hz, hd, hv, hnT, hTe, hT, hdT, h3⟩ := hh
    have h1C := k1 C oC hBC
    have aC : a ≠ C := fun z => by rw [z, hBC] at k2; cases k2
    have tC : T ≠ C := fun z => by rw [z, hBC] at hnT; cases hnT
    refine ⟨m, ⟨oC, es, ep, by rw [hcl]; exact h1C, hdC, hrC⟩, fun h' m' hn' sb => ?_⟩
    rw [hcl] at hn' sb
    have old : ∀ b, b ≠ C → h'.get? b = h1.get? b := sb.2
    obtain ⟨oC', es', ep', hoC', hdC', _⟩ := hn'
    -- the ground and the state without the exception, with C let go
    obtain ⟨B', b1, b2⟩ := restrict h' fun b => (B.get? b).isSome
    obtain ⟨G, g1, g2⟩ := restrict h' fun b => (sI.heap.get? b).isSome
    have B'n : ∀ b, B.get? b = none → B'.get? b = none := fun b e => b2 b (by rw [e]; rfl)
    have st' : B'.StaysIn h' := fun b o e => by
      cases q : (B.get? b).isSome with
      | true => rw [← b1 b q]; exact e
      | false => rw [b2 b q] at e; cases e
    have ff : h'.FunFrames B' X.stack := funFrames_none (ff_but cF old k3) fun b hb => B'n b (k3.mem hb).1
    have tr : HandSPX.TracedZ h' B' a (Zc cls d) (rawInt X.env.locals) := ⟨oe, vs, T, oT, ts, (old a aC).trans he, hz, hd, hv, B'n T hnT, hTe, (old T tC).trans hT, hdT, h3⟩
    unfold PySem.passOn
    refine wpAny_bind (wpAny_field ((old a aC).trans he) hd hv ?_)
    rw [if_neg (show ¬ ((Value.ref T == Value.none) = true) from by simp)]
    rw [hcf, hf]
    refine wpAny_bind (HandSPX.setFlight_anyZ st' ff tr fun h2 j1 j2 j3 j4 => ?_)
    refine wpAny_throw ?_
    refine tk _ _ ⟨a, B', { sI with heap := G, gens := s'.gens, drawn := s'.drawn, toks := s'.toks }, pins, σ, H, cls, d, rfl, ?_, fun b o e hb => ?_, fun b o e hnf => ?_, .inr (.inr ⟨j1, B'n a k2, j2, j3⟩), na, os, ag, w⟩
    · -- the state
      have gn : ∀ b o, b ≠ C → b ∉ frs X.stack → sI.heap.get? b = some o → G.get? b = some o := fun b o hb hF e => by
        rw [g1 b (by rw [e]; rfl), old b hb]
        exact k1 b o (nb b o e hF)
      have gC : G.get? C = some oC' := by rw [g1 C (by rw [hoC]; rfl)]; exact hoC'
      have gF : ∀ b o, b ∈ frs X.stack → sI.heap.get? b = some o → ∃ sl, G.get? b = some { o with slots := sl } := fun b o hb e => by
        obtain ⟨_, o', e', hd'⟩ := I.stack.mem hb
        rw [e] at e'; cases e'
        obtain ⟨sl, e2⟩ := (up.trans up1) b o e hd'
        have hbC : b ≠ C := fun z => cF (z ▸ hb)
        exact ⟨sl, by rw [g1 b (by rw [e]; rfl), old b hbC]; exact e2⟩
      refine I.call (ch := [C]) ⟨fun b o e n hb hx => gn b o (fun z => hx (by simp [z])) hb e, fun b o e n hb hx => gF b o hb e, fun b o e n _ => n, fun b o e hx => ?_, fun _ _ e => e, fun _ _ _ e => e, fun b ps e => ⟨#[], by rw [e]; simp⟩⟩ ?_ ag (fun b hb => ?_)
      · by_cases hF : b ∈ frs X.stack
        · obtain ⟨sl, q⟩ := gF b o hF e
          exact ⟨_, q⟩
        · exact ⟨o, gn b o (fun z => hx (by simp [z])) hF e⟩
      · intro b o q
        refine (I.hok b o q).stay (fun c u hc r => gn c u (fun z => ?_) (fun hm => ?_) r) (fun _ r => r) fun _ _ r => r
        · subst z
          rcases hc with hc | hc
          · rw [← hc, hC.1] at q; cases q
          · rw [hC.1] at hc; cases hc
        · have z := I.stkFree c hm
          rcases hc with hc | hc
          · rw [hc, q] at z; cases z
          · rw [hc] at z; cases z
      · have e : b = C := by simpa using hb
        subst e
        exact ⟨hC.2.2.2.1, hC.2.1, hC.2.2.2.2.1, hC.2.2.2.2.2⟩
    · cases q : (sI.heap.get? b).isSome with
      | false => rw [g2 b q] at e; cases e
      | true =>
        obtain ⟨o2, q2⟩ := Option.isSome_iff_exists.mp q
        rw [b1 b (by rw [nb b o2 q2 hb]; rfl), ← g1 b q]
        exact e
    · cases q : (sI.heap.get? b).isSome with
      | false => rw [g2 b q] at e; cases e
      | true => exact j4 b o (by rw [← g1 b q]; exact e) hnf
  rw [hs] at sky fin
  rcases sky with ⟨hB, hn, hl, oe, vs, he, hz, hd, h1⟩ | fl | hh
  · exact HandSPX.look_newZ Zc.steady hfr hl hf he hB hn hd h1 hz fin
  · exact HandSPX.looks_onZ Zc.steady hfr hf fl fin
  · exact look_flZ Zc.steady hfr hf hh.1 hh.2.1 hh.2.2.1 hh.2.2.2 fin
/-- lc_core with an element that may let an exception out, which W bears -/
theorem lc_coreX {pins : List (Addr × Obj)} {s : Shared} {σ : L2.St} {H : Hp} {Q : VK} {elt tg iter : Expr} {ifs : List Expr} {scope : Scope} {own : List (Str × Nat)} {pos pos' : Pos} {wi : TI} {g : TG} {tt : TT} {te : TE} {EE : XK} {use : Option (Value → Sem Unit)} {Qf : Value → Shared → Prop}
    (hst : X.stack = X.env :: X.outer) (hfm : X.env.frame = some X.env.locals) (tk : Takes X (fun cls d _ H => EE cls d H))
    (hc : X.calm = true) (hN : X.N.Nodup) (I : Inv X pins σ H s) (hi : PI X tg iter wi) (ok : BlkOk X.N X.env.scope scope own)
    (hg : ∀ (s : Shared) (H : Hp) (C : Addr) (cl : List (Str × Addr)) (fp : List Addr), PG (X.blk s H scope (compEnvC scope cl C X.env) fp) tg g) (ht : ∀ (s : Shared) (H : Hp) (C : Addr) (cl : List (Str × Addr)) (fp : List Addr), PTs (X.blk s H scope (compEnvC scope cl C X.env) fp) ifs tt)
    (he : ∀ (s : Shared) (H : Hp) (C : Addr) (cl : List (Str × Addr)) (fp : List Addr) (pn : List (Addr × Obj)) (xe : Value → Shared → Prop), Takes ((X.blk s H scope (compEnvC scope cl C X.env) fp).tr pn xe) (fun cls d _ H => EE cls d H) → PE ((X.blk s H scope (compEnvC scope cl C X.env) fp).tr pn xe) elt te) (hs : ∀ x, foldedSetIterable iter X.env x = pure x)
    (h : tLc wi g tt te (own.map (·.2)) σ H Q)
    (hRR : ∀ D ce s' m H', ce.frame = X.env.frame → Inv X pins σ H' s' → Q (.ref D) H' → s'.heap.Ns ce.locals m → FpOk X pins H' ce.locals → compEnds (model X.prog X.w) X.A X.xe use Qf (.ref D) ce (.ok .next) s') :
    wpAny (model X.prog X.w) X.A (comprehension (.ListComp elt [⟨tg, iter, ifs, 0⟩] scope pos) scope X.env pos' (newList []) false (eval iter X.env) use) Qf X.xe s := by
  have hfree : ∀ y ∈ scope.names, y.2 = .free → ∃ c, X.env.cells.lookup y.1 = some c := fun y hy e => by
    rcases ok.free y hy e with k | k
    · exact I.ok.has _ (.inl k)
    · exact I.ok.has _ (.inr k)
  refine comprehension_at (use := use) rfl hs (closure_ok hfree) ok.kind (fun y hy e => by rw [ok.uniq y hy, e])
    (thn (hi.run pins s σ H _ I h) fun xv s1 hx => thn hx fun itv s2 h2 => ?_)
  obtain ⟨it, fp, tn, J, H2, e, I2, T, st2, f2, q⟩ := h2
  subst e
  refine wpAny_newObj_type (newEnv_comp ?_) (by show 0 ≤ sizeLine; decide)
  generalize hD : s2.heap.objs.size = D
  have hDn : H2 D = none := I2.hok.fresh (Nat.le_of_eq hD)
  obtain ⟨W, ⟨m0, w0⟩, turn⟩ := q D hDn
  generalize hs3 : ({ s2 with heap := s2.heap.push { cls := .type "list", data := .seq ([] : List Value).toArray } } : Shared) = s3
  have I3 : Inv X pins σ (upd H2 D (.lst [])) s3 := by
    rw [← hs3]
    refine I2.laid (t' := s2.toks) (fun b o e => Heap.get?_push_of_some _ e) (Nat.le_of_eq hD) ⟨Nat.zero_le _, [], 0, .nil, ?_⟩
    rw [← hD]
    exact Heap.get?_push_size _ rfl
  have h3 : s3.heap = s2.heap.push { cls := .type "list", data := .seq ([] : List Value).toArray } := by rw [← hs3]
  have sz : ∀ b ∈ fp, b < s2.heap.objs.size := fun b hb => by
    obtain ⟨o, e, _⟩ := T.obj _ _ st2 b hb
    exact Heap.lt_size e
  have f3 : ∀ b ∈ fp, FpOk X pins (upd H2 D (.lst [])) b ∧ b < s3.heap.objs.size := fun b hb => by
    have hlt := sz b hb
    refine ⟨⟨?_, (f2 b hb).2⟩, by rw [h3, Heap.size_push]; exact Nat.lt_succ_of_lt hlt⟩
    rw [upd_ne (by rw [← hD]; exact Nat.ne_of_lt hlt)]
    exact (f2 b hb).1
  have st3 : tn 0 s3.heap := T.keep _ _ _ st2 fun b _ o e => by rw [h3]; exact Heap.get?_push_of_some _ e
  have I4 := block_start I3 ok hN f3
  have pg := hg s3 (upd H2 D (.lst [])) s3.heap.objs.size (cellsFrom (s3.heap.objs.size + 1) scope.names (cloFrom X.env.cells scope.names [])) fp
  have pt := ht s3 (upd H2 D (.lst [])) s3.heap.objs.size (cellsFrom (s3.heap.objs.size + 1) scope.names (cloFrom X.env.cells scope.names [])) fp
  have pe := he s3 (upd H2 D (.lst [])) s3.heap.objs.size (cellsFrom (s3.heap.objs.size + 1) scope.names (cloFrom X.env.cells scope.names [])) fp
  show codeAny _ _ (.compStart (.ListComp elt [⟨tg, iter, ifs, 0⟩] scope pos) 0 (.ref it) (.ref D) (compEnvC scope (cellsFrom (s3.heap.objs.size + 1) scope.names (cloFrom X.env.cells scope.names [])) s3.heap.objs.size X.env)) (compEnds (model X.prog X.w) X.A X.xe use Qf (.ref D) (compEnvC scope (cellsFrom (s3.heap.objs.size + 1) scope.names (cloFrom X.env.cells scope.names [])) s3.heap.objs.size X.env)) { s3 with heap := pushCells (s3.heap.push { cls := .type "dict", data := .dict #[] }) scope.names }
  have nfp : ∀ b ∈ fp, (upd H2 D (.lst [])) b = none := fun b hb => (f3 b hb).1.1
  generalize hce : compEnvC scope (cellsFrom (s3.heap.objs.size + 1) scope.names (cloFrom X.env.cells scope.names [])) s3.heap.objs.size X.env = ce at I4 pg pt pe ⊢
  have cL : ce.locals = s3.heap.objs.size := by subst hce; rfl
  have cF : ce.frame = X.env.frame := by subst hce; rfl
  generalize hH3 : upd H2 D (.lst []) = H3 at I3 I4 pg pt pe w0 nfp f3
  generalize hs4 : ({ s3 with heap := pushCells (s3.heap.push { cls := .type "dict", data := .dict #[] }) scope.names } : Shared) = s4 at I4 ⊢
  have st4 : tn 0 s4.heap := T.keep _ _ _ st3 fun b _ o e => by rw [← hs4]; exact pushCells_keeps _ _ _ _ (Heap.get?_push_of_some _ e)
  have stat : ∀ {σ' : L2.St} {H' : Hp} {s' : Shared}, Inv (X.blk s3 H3 scope ce fp) [] σ' H' s' → (∀ b ∈ fp, H' b = none) → ∀ b ∈ fp, FpOk (X.blk s3 H3 scope ce fp) [] H' b := fun {σ' H' s'} I' hn b hb =>
    ⟨hn b hb, (I'.ok.exf b hb).1, I'.ok.exfs b hb, .inl hb, fun x c e => (I'.ok.exf b hb).2 x c e, fun p hp => absurd (show p ∈ ([] : List (Addr × Obj)) ++ [] from hp) (by simp)⟩
  -- from the block's state to the def's
  have back : ∀ {pins' : List (Addr × Obj)} {σ' : L2.St} {H' : Hp} {s' : Shared}, Inv (X.blk s3 H3 scope ce fp) pins' σ' H' s' → Inv X pins σ H' s' ∧ FpOk X pins H' ce.locals ∧ ∃ m, s'.heap.Ns ce.locals m := fun {pins' σ' H' s'} I6 => by
    have nC : H' ce.locals = none := I6.free
    obtain ⟨m, hn, _⟩ := I6.loc
    exact ⟨I3.call' (ch := fp) I6.os I6.base I6.hok I6.bare fun b hb => ⟨(f3 b hb).1.2.2.2.1, (f3 b hb).1.2.1, (f3 b hb).1.2.2.2.2.1, (f3 b hb).1.2.2.2.2.2⟩, by rw [cL] at nC ⊢; exact I3.fpOk (Nat.le_refl _) nC, m, hn⟩
  have loop : codeAny (model X.prog X.w) X.A (.compLoop (.ListComp elt [⟨tg, iter, ifs, 0⟩] scope pos) 0 (.ref it) (.ref D) ce) (compEnds (model X.prog X.w) X.A X.xe use Qf (.ref D) ce) s4 := by
    refine compLoop_any (fun n s' => ∃ i H', Inv (X.blk s3 H3 scope ce fp) [] (wipe σ (own.map (·.2))) H' s' ∧ tn i s'.heap ∧ (∀ b ∈ fp, H' b = none) ∧ W i n H') ?_ m0 ⟨0, H3, I4, st4, nfp, w0⟩
    rintro n s5 ⟨i, H5, I5, st5, n5, w5⟩
    rcases turn i n H5 w5 with ⟨stop, qq⟩ | ⟨go, Nx, hNx, step⟩
    · have td := T.done (X.blk s3 H3 scope ce fp) rfl rfl rfl hc i [] s5 _ H5 (fun _ _ => False) I5 (stat I5 n5) st5 stop
      refine thnF td fun r s6 ⟨hr, I6⟩ => ?_
      subst hr
      obtain ⟨I7, f7, m, hn⟩ := back I6
      exact hRR D ce s6 m H5 cF I7 qq hn f7
    · have ti := T.item (X.blk s3 H3 scope ce fp) rfl rfl rfl hc i [] s5 _ H5 (fun _ _ => False) I5 (stat I5 n5) st5 go
      refine thnF ti fun r s6 ⟨u, hr, h6⟩ => ?_
      subst hr
      refine thnF h6 fun _ s7 ⟨x, H7, I7, r7, y7, st7, n7⟩ => ?_
      have I7' := I7.pinned (stat I7 n7) (T.obj _ _ st7)
      refine thnF (pg.run _ s7 _ H7 x u _ I7' r7 (step x H7 y7)) fun _ s8 ⟨σ8, H8, I8, hw8, q8⟩ => ?_
      refine thnF (pt.run _ s8 σ8 H8 _ I8 q8) fun b s9 ⟨H9, I9, q9⟩ => ?_
      have fin : ∀ {s' : Shared} {H' : Hp}, Inv (X.blk s3 H3 scope ce fp) ([] ++ pinsAt fp s7.heap) σ8 H' s' → Nx H' → ∃ m, m < n ∧ ∃ i H', Inv (X.blk s3 H3 scope ce fp) [] (wipe σ (own.map (·.2))) H' s' ∧ tn i s'.heap ∧ (∀ b ∈ fp, H' b = none) ∧ W i m H' := fun {s' H'} I' nx => by
        obtain ⟨m', hm, w'⟩ := hNx H' nx
        have pin' : ∀ b ∈ fp, ∀ o, s7.heap.get? b = some o → s'.heap.get? b = some o ∧ H' b = none := fun b hb o e =>
          let z := I'.pin (b, o) (List.mem_append_right _ (List.mem_append_right _ (mem_pinsAt hb e)))
          ⟨z.1, z.2.1⟩
        have hl : (wipe σ (own.map (·.2))).length = σ8.length := by rw [← hw8, wipe_length]
        refine ⟨m', hm, i + 1, H', (I'.unpinned (pins := [])).weak hl (fun j v e => ?_), T.keep _ _ _ st7 fun b hb o e => (pin' b hb o e).1, fun b hb => ?_, w'⟩
        · rw [← hw8] at e
          exact (wipe_some e).1
        · obtain ⟨o, e, _⟩ := T.obj _ _ st7 b hb
          exact (pin' b hb o e).2
      cases b with
      | false =>
        simp only [Bool.false_eq_true, if_false] at q9 ⊢
        exact fin I9 q9
      | true =>
        simp only [if_true] at q9 ⊢
        have pe' := pe ((X.blk s3 H3 scope ce fp).pn ++ ([] ++ pinsAt fp s7.heap)) (notedBy (model X.prog X.w) X.A ce fun e s' => compEnds (model X.prog X.w) X.A X.xe use Qf (.ref D) ce (.error e) s') (fun u s' xx => ?_)
        · refine wpAny_mono (pe'.run [] s9 σ8 H9 _ (I9.toTry _) q9) (fun z s10 hz => ?_) (fun _ _ z => z)
          obtain ⟨yv, H10, I10', r10, acc, hD10, hz10, nx⟩ := hz
          have I10 : Inv (X.blk s3 H3 scope ce fp) ([] ++ pinsAt fp s7.heap) σ8 H10 s10 := I10'.ofTry I9.ok
          exact app_ok (X := X.blk s3 H3 scope ce fp) I10 hD10 hz10 r10 fun s11 I11 => fin I11 nx
        · obtain ⟨a, B, sI, pins', σ', H', cls, d, rfl, J', nb, up, sky, na, os, ag, w⟩ := xx
          have J : Inv (X.blk s3 H3 scope ce fp) ([] ++ pinsAt fp s7.heap) σ' H' sI := J'.ofTry I9.ok
          obtain ⟨J2, f2', m, hn⟩ := back J
          refine wpAny_mono (comp_fails (E₁ := fun _ _ => False) hst hfm tk cF rfl J2 f2' hn nb up sky na os ag w) (fun _ s'' cf => ?_) (fun _ _ z => False.elim z)
          cases use <;> exact cf
  exact codeAny_compStart_list loop (T.self X.A 0 _ _ _ st4 loop)
/-- as a value -/
theorem pe_lcX {elt tg iter : Expr} {ifs : List Expr} {scope : Scope} {own : List (Str × Nat)} {pos : Pos} {wi : TI} {g : TG} {tt : TT} {te : TE} {EE : XK} (hst : X.stack = X.env :: X.outer) (hfm : X.env.frame = some X.env.locals) (tk : Takes X (fun cls d _ H => EE cls d H)) (hc : X.calm = true) (hN : X.N.Nodup) (hi : PI X tg iter wi) (ok : BlkOk X.N X.env.scope scope own)
    (hg : ∀ (s : Shared) (H : Hp) (C : Addr) (cl : List (Str × Addr)) (fp : List Addr), PG (X.blk s H scope (compEnvC scope cl C X.env) fp) tg g) (ht : ∀ (s : Shared) (H : Hp) (C : Addr) (cl : List (Str × Addr)) (fp : List Addr), PTs (X.blk s H scope (compEnvC scope cl C X.env) fp) ifs tt)
    (he : ∀ (s : Shared) (H : Hp) (C : Addr) (cl : List (Str × Addr)) (fp : List Addr) (pn : List (Addr × Obj)) (xe : Value → Shared → Prop), Takes ((X.blk s H scope (compEnvC scope cl C X.env) fp).tr pn xe) (fun cls d _ H => EE cls d H) → PE ((X.blk s H scope (compEnvC scope cl C X.env) fp).tr pn xe) elt te) (hs : ∀ x, foldedSetIterable iter X.env x = pure x := by intro _; rfl) :
    PE X (.ListComp elt [⟨tg, iter, ifs, 0⟩] scope pos) (tLc wi g tt te (own.map (·.2))) := by
  refine ⟨fun pins s σ H Q I h => ?_⟩
  rw [eval_ListComp]
  refine lc_coreX hst hfm tk hc hN I hi ok hg ht he hs h fun D ce s' m H' cF I' q hn f => ⟨m, hn, fun h'' sb => ?_⟩
  obtain ⟨f0, f1, f2, f3, f4, f5⟩ := f
  exact ⟨.ref D, H', I'.turned (t' := s'.toks) (fun b o hb e => (sb.2 b hb).trans e) f0 f1 f3 f4 f5, rfl, q⟩
/-- name = [..] on one line, the name a local -/
theorem ps_setLcX {i : Nat} {y : Str} {py : Pos} {elt tg iter : Expr} {ifs : List Expr} {scope : Scope} {own : List (Str × Nat)} {pos spos : Pos} {wi : TI} {g : TG} {tt : TT} {te : TE} {EE : XK} (hst : X.stack = X.env :: X.outer) (hfm : X.env.frame = some X.env.locals) (tk : Takes X (fun cls d _ H => EE cls d H)) (hc : X.calm = true) (hN : X.N.Nodup) (hy : X.N[i]? = some y) (hyl : X.env.scope.names.lookup y = some .local)
    (hsw : swapsWith (.ListComp elt [⟨tg, iter, ifs, 0⟩] scope pos) (some (.Name y py)) spos.line X.env = pure true) (hi : PI X tg iter wi) (ok : BlkOk X.N X.env.scope scope own)
    (hg : ∀ (s : Shared) (H : Hp) (C : Addr) (cl : List (Str × Addr)) (fp : List Addr), PG (X.blk s H scope (compEnvC scope cl C X.env) fp) tg g) (ht : ∀ (s : Shared) (H : Hp) (C : Addr) (cl : List (Str × Addr)) (fp : List Addr), PTs (X.blk s H scope (compEnvC scope cl C X.env) fp) ifs tt)
    (he : ∀ (s : Shared) (H : Hp) (C : Addr) (cl : List (Str × Addr)) (fp : List Addr) (pn : List (Addr × Obj)) (xe : Value → Shared → Prop), Takes ((X.blk s H scope (compEnvC scope cl C X.env) fp).tr pn xe) (fun cls d _ H => EE cls d H) → PE ((X.blk s H scope (compEnvC scope cl C X.env) fp).tr pn xe) elt te) (hs : ∀ x, foldedSetIterable iter X.env x = pure x := by intro _; rfl) :
    PS X (.Assign [.Name y py] (.ListComp elt [⟨tg, iter, ifs, 0⟩] scope pos) spos) (tAsg (tLc wi g tt te (own.map (·.2))) (gName i)) := by
  refine ⟨fun pins s σ H D I h => ?_⟩
  rw [exec_Assign_Name_used _ _ _ _ hsw]
  refine wpAny_bind (wpAny_standAt (wpAny_bind ?_))
  show wpAny _ X.A (do let _ ← comprehension (.ListComp elt [⟨tg, iter, ifs, 0⟩] scope pos) scope X.env (firstIterPos [⟨tg, iter, ifs, 0⟩] pos) (newList []) false (eval iter X.env) (some (assign (.Name y py) X.env))) _ _ s
  have h : tLc wi g tt te (own.map (·.2)) σ H (fun x H1 => gName i x σ H1 D.nx) := h
  refine wpAny_bind (thn (lc_coreX (Qf := fun _ s' => SP X pins D .next s') hst hfm tk hc hN I hi ok hg ht he hs h fun L ce s' m H' cF I' q hn f => ?_) fun _ s' hq => wpAny_pure (wpAny_pure hq))
  show wpAny _ _ (assign (.Name y py) X.env (.ref L)) _ _ _
  refine wpAny_assign_Name (store_ok2 (v := V.ref L) I' hN hy (.inl hyl) rfl (fun s2 I2 ⟨a, sb, ha⟩ => ?_) (.inr hyl))
  obtain ⟨f0, f1, f2, f3, f4, f5⟩ := f
  have haC : ce.locals ≠ a := by
    rcases ha with z | z
    · rw [z]; exact f1
    · exact fun e => f4 y a z e.symm
  refine ⟨m, hn.sameBut sb haC, fun h3 sb3 => ?_⟩
  exact ⟨_, H', I2.turned (t' := s2.toks) (fun b o hb e => (sb3.2 b hb).trans e) f0 f1 f3 f4 f5, q⟩
end
end Bk
set_option Elab.async false
set_option linter.all false
set_option maxRecDepth 100000
set_option maxHeartbeats 2000000
namespace Bk
open PySem PySem.Spec PyProof.Rows L2
theorem pe_globS {X : Cx} {x : Str} {pos : Pos} {z : Str} (hg : Gl X x) (hm : ∃ t, X.mg x = some (.str z t)) (hd : (x == ("__debug__" : Str)) = false := by decide) : PE X (.Name x pos) (tC (.str z)) := by
  obtain ⟨t, h⟩ := hm
  exact pe_glob hg h ⟨t, rfl⟩ hd
theorem pe_bmK {X : Cx} {K : PySem.W.Frag} {e : Expr} {T : String} {r : V → List V → Hp → VK → Prop} {to : TE} {t : TA} (h : X.K = K) (p : PE X e (tBM X.K T r to t)) : PE X e (tBM K T r to t) := h ▸ p
end Bk
set_option Elab.async false
set_option linter.all false
set_option maxRecDepth 100000
set_option maxHeartbeats 2000000
/-! != of two lists whose items the one program compares (dicts among them). The two proofs about the builtin's loop go as the library's for ==. -/
namespace PySem.SeqAt
open AutoSeq1 (wpAny_loadPart')
open MeetsSeq MeetsSeq2 MeetsSeq3 SeqRoads2
section
variable {prog : Program} {w : World}
theorem bk_ne_loop (l b : Addr) (items items2 : Array Value) (n n2 : Nat) (dd dd2 : Option Addr) (sl sl2 : Array (Option Value)) (hsz : items.size = items2.size) (m : Nat) :
    ∀ i : Nat, items.size - i = m → MeetsIn prog w (Builtin.«list.__eq__.loop» ⟨[.ref l, .ref b, rawInt i, rawInt 3], []⟩)
      (fun A R s => s.heap.get? l = some { cls := .type "list", dict := dd, data := .seq items n, slots := sl } ∧ s.heap.get? b = some { cls := .type "list", dict := dd2, data := .seq items2 n2, slots := sl2 } ∧
        (∀ j (h1 : j < items.size) (h2 : j < items2.size), EqP prog w A.in1 s items[j] items2[j] true) ∧ R (.ok (.ret (.bool false))) s) := by
  induction m with
  | zero =>
    intro i hm A R s h
    obtain ⟨hp, g, d, tk, os⟩ := s
    obtain ⟨hl, hb, he, h⟩ := h
    wp_walk using wpAny_loadPart' hl, wpAny_loadPart' hb
    have e1 : items[((i : Nat) : Int).toNat]? = none := by simp; omega
    have e2 : items2[((i : Nat) : Int).toNat]? = none := by simp; omega
    rw [e1, e2]
    wp_walk using wpAny_loadPart' hl, wpAny_loadPart' hb
    show R (.ok (.ret (.bool (items.size != items2.size)))) _
    rw [hsz]
    simpa using h
  | succ m ih =>
    intro i hm A R s h
    obtain ⟨hp, g, d, tk, os⟩ := s
    obtain ⟨hl, hb, he, h⟩ := h
    wp_walk using wpAny_loadPart' hl, wpAny_loadPart' hb
    have g1 : i < items.size := by omega
    have g2 : i < items2.size := by omega
    have e1 : items[((i : Nat) : Int).toNat]? = some items[i] := by simp [g1]
    have e2 : items2[((i : Nat) : Int).toNat]? = some items2[i] := by simp [g2]
    have e3 : ((i : Int) + 1) = ((i + 1 : Nat) : Int) := by push_cast; rfl
    rw [e1, e2]
    refine wpAny_bind (he i g1 g2 _ _ ?_)
    wp_walk
    rw [e3]
    exact ⟨plainId_quiet plain_eq_loop _, codeAny_builtin entry_eq_loop (by
      rw [Around.under_plainId plain_eq_loop _]
      exact ih (i + 1) (by omega) A R _ ⟨hl, hb, he, h⟩)⟩
theorem bk_list_ne (l b : Addr) (items items2 : Array Value) (n n2 : Nat) (dd dd2 : Option Addr) (sl sl2 : Array (Option Value)) (hsz : items.size = items2.size) :
    MeetsIn prog w (Builtin.«list.__ne__» ⟨[.ref l, .ref b], []⟩)
      (fun A R s => s.heap.get? l = some { cls := .type "list", dict := dd, data := .seq items n, slots := sl } ∧ s.heap.get? b = some { cls := .type "list", dict := dd2, data := .seq items2 n2, slots := sl2 } ∧
        (∀ j (h1 : j < items.size) (h2 : j < items2.size), EqP prog w A.in1 s items[j] items2[j] true) ∧ R (.ok (.ret (.bool false))) s) := by
  intro A R s h
  obtain ⟨hp, g, d, tk, os⟩ := s
  obtain ⟨hl, hb, he, h⟩ := h
  have f3 := AutoSeq1.sub_list_list
  have hne : ¬ (items.size != items2.size) = true := by simp [hsz]
  wp_walk using wpAny_loadPart' hl, wpAny_loadPart' hb
  exact ⟨plainId_quiet plain_eq_loop _, codeAny_builtin entry_eq_loop (by
    rw [Around.under_plainId plain_eq_loop _]
    exact bk_ne_loop l b items items2 n n2 dd dd2 sl sl2 hsz _ 0 rfl A R _ ⟨hl, hb, he, h⟩)⟩
theorem bk_rcne {A : Around} {s : Shared} {l b : Addr} {items items2 : Array Value} (hl : s.heap.IsList l items) (hb : s.heap.IsList b items2) (hsz : items.size = items2.size) (hu : A.units < cLine)
    (he : ∀ j (h1 : j < items.size) (h2 : j < items2.size), EqP prog w A.in1 s items[j] items2[j] true) (E Q : Value → Shared → Prop) (h : Q (.bool false) s) : wpAny (model prog w) A (richCompare .NotEq (.ref l) (.ref b)) Q E s := by
  obtain ⟨⟨cls, dd, data, sl⟩, ho, hc, n, hd⟩ := id hl
  obtain ⟨⟨cls2, dd2, data2, sl2⟩, ho2, hc2, n2, hd2⟩ := id hb
  simp only at hc hd hc2 hd2
  subst hc hd hc2 hd2
  have ta : s.TypeIs (.ref l) "list" := ⟨_, ho, rfl⟩
  have tb : s.TypeIs (.ref b) "list" := ⟨_, ho2, rfl⟩
  exact wpAny_richCompare_same_room (op := .NotEq) ta tb F.slot_list_ne (call_meetsIn F.slot_list_ne ta F.entry_list_ne (F.args_list_ne_2 _ _) (bk_list_ne l b items items2 n n2 dd dd2 sl sl2 hsz)
    ⟨ho, ho2, he, show Value.bool false ≠ Value.notImplemented ∧ Q (.bool false) s from ⟨(fun x => nomatch x), h⟩⟩) hu
end
end PySem.SeqAt
namespace Bk
open PySem PySem.Spec PyProof.Rows L2
theorem units65 {k : Nat} {A : Around} (r : Room k A) : A.units + 65 < cLine := by have := r.un; omega
/-- equal, of nesting below n: data of lists and tuples, and lists and dicts of such -/
def EqW (K : PySem.W.Frag) (H : Hp) : Nat → V → V → Prop
  | 0 => fun _ _ => False
  | n + 1 => fun x y => (∃ d, Dp K H x d ∧ Dp K H y d ∧ d.canLay0 = true ∧ d.depth ≤ 10) ∨ EqR K H (EqW K H n) x y
section
variable {X : Cx} {pins : List (Addr × Obj)} {σ : L2.St} {H : Hp} {s : Shared}
theorem eqW_run (I : Inv X pins σ H s) : ∀ (n : Nat) (A : Around), A.units + n + 12 < cLine → ∀ (x y : V) (v u : Value), EqW X.K H n x y → RelV x v → RelV y u → SeqAt.EqP X.prog X.w A s v u true
  | 0, _, _, _, _, _, _, h, _, _ => (show False from h).elim
  | n + 1, A, hu, x, y, v, u, h, rx, ry => by
    rcases h with ⟨d, h1, h2, c, dp⟩ | h
    · obtain ⟨as, r1⟩ := Dp.reads I d _ _ h1 rx
      obtain ⟨bs, r2⟩ := Dp.reads I d _ _ h2 ry
      have q := SeqAt.eqAt_reads d d A s v u as bs r1 r2 c c (by omega)
      rw [SeqAt.eqv_refl d c] at q
      exact q.eqP
    · have step := eqR_run I (A := A) (by omega) (eqW_run I n A.in1 (by show A.units + 1 + n + 12 < cLine; omega)) h rx ry
      obtain ⟨a, b, rfl, rfl⟩ : ∃ a b, x = .ref a ∧ y = .ref b := by
        rcases h with ⟨a, b, _, _, e1, e2, _⟩ | ⟨a, b, _, _, e1, e2, _⟩
        · exact ⟨a, b, e1, e2⟩
        · exact ⟨a, b, e1, e2⟩
      cases (show v = Value.ref a from rx)
      cases (show u = Value.ref b from ry)
      by_cases e : a = b
      · subst e
        exact (SeqAt.EqAt.same _).eqP
      · exact SeqAt.eqP_refs e step
end
section
variable {X : Cx}
/-- a != b, two lists of equal items -/
def rNeW (K : PySem.W.Frag) : R2 := fun x y H Q => ∃ n a b xs ys, n ≤ 40 ∧ x = .ref a ∧ y = .ref b ∧ SqL K H a xs ∧ SqL K H b ys ∧ Paired (EqW K H n) xs ys ∧ Q (.bl false) H
theorem op_neW (hu : X.A.units + 64 < cLine) : OpR X (compareOp .NotEq) (rNeW X.K) := by
  intro pins s σ H x y v u Q I rx ry h
  obtain ⟨n, a, b, xs, ys, hn, rfl, rfl, ha, hb, hp, q⟩ := h
  cases (show v = Value.ref a from rx)
  cases (show u = Value.ref b from ry)
  obtain ⟨us, r1, p1, _⟩ := I.list ha
  obtain ⟨ws, r2, p2, _⟩ := I.list hb
  have hsz : us.toArray.size = ws.toArray.size := by
    rw [List.size_toArray, List.size_toArray, ← r1.length, ← r2.length]
    exact Paired.length hp
  refine SeqAt.bk_rcne p1.isList p2.isList hsz (by omega) (fun j h1 h2 => ?_) _ _ ⟨.bl false, H, I, rfl, q⟩
  have k := items_run (eqW_run I n X.A.in1 (by show X.A.units + 1 + n + 12 < cLine; omega)) hp r1 r2 j (by simpa using h1) (by simpa using h2)
  simpa using k
/-- a == b, two lists of equal items -/
def rEqW (K : PySem.W.Frag) : R2 := fun x y H Q => ∃ n, n ≤ 40 ∧ EqR K H (EqW K H n) x y ∧ Q (.bl true) H
theorem op_eqW (hu : X.A.units + 64 < cLine) : OpR X (compareOp .Eq) (rEqW X.K) := by
  intro pins s σ H x y v u Q I rx ry h
  obtain ⟨n, hn, h, q⟩ := h
  exact eqR_run I (A := X.A) (by omega) (eqW_run I n X.A.in1 (by show X.A.units + 1 + n + 12 < cLine; omega)) h rx ry _ _ ⟨.bl true, H, I, rfl, q⟩
/-- x not in a tuple of data -/
def rNotInT (K : PySem.W.Frag) : R2 := fun x y H Q => ∃ d ds, Dp K H x d ∧ Dp K H y (.tuple ds) ∧ SeqAt.shaped d = true ∧ SeqAt.shaped (.tuple ds) = true ∧ Q (.bl (!ds.any fun z => PyData.eqv z d)) H
theorem op_notInT (hu : X.A.units + 65 < cLine) : OpR X (compareOp .NotIn) (rNotInT X.K) := by
  intro pins s σ H x y v u Q I rx ry h
  obtain ⟨d, ds, hd, he, sd, se, q⟩ := h
  obtain ⟨as, r1⟩ := Dp.reads I d x v hd rx
  obtain ⟨bs, r2⟩ := Dp.reads I (.tuple ds) y u he ry
  exact SeqAt.notIn_tuple_reads r2 r1 (SeqAt.canLay_of_shaped se) (SeqAt.canLay_of_shaped sd) (room_in_shaped sd hu) ⟨.bl _, H, I, rfl, q⟩
end
end Bk
set_option Elab.async false
set_option linter.all false
set_option maxRecDepth 100000
set_option maxHeartbeats 2000000
namespace Bk
open PySem PySem.Spec PyProof.Rows L2 LamX
section
variable {X : Cx} {k i : Nat} {C : Addr} {sp : Sp} {x m : Str} {o e : Expr} {es : List Expr} {t : TA} {ta : TE} {p pos apos : Pos} {pl : Sem Bool} {EE : XK}
/-- cls(..) where the local name cls holds the class -/
def tMakeLk (i : Nat) (C : Addr) (sp : Sp) (t : TA) : TE := fun σ H Q => σ[i]? = some (some (.ref C)) ∧ tMake C sp [] E0 t σ H Q
theorem pe_makeL (c : Maker X.prog X.w X.K X.mg X.base m C k sp) (hr : Room (k + 1) X.A) (hN : X.N[i]? = some x) (hv : Vis X.env.scope x) (ha : PA X (e :: es) t)
    (hdb : (x == ("__debug__" : Str)) = false := by decide) (hcd : (x == ("__classdict__" : Str)) = false := by decide)
    (he : starEach (e :: es) X.env = (false, eval e X.env) :: starEach es X.env := by rfl) (hpl : (backTo pos (starEach es X.env)).any (·.1) = false := by rfl) : PE X (.Call (.Name x p) (e :: es) [] pos) (tMakeLk i C sp t) := by
  obtain ⟨f, fd, ps, M, hm, hb, F⟩ := c.ex
  refine ⟨fun pins s σ H Q I h => ?_⟩
  obtain ⟨hs, ht⟩ := h
  refine wpAny_Call_Name_kw (thn ((pe_var (pos := p) hN hv hdb hcd).run pins s σ H (fun v H1 => v = .ref C ∧ H1 = H) I ⟨.ref C, hs, rfl, rfl⟩) fun u s1 ⟨v, H1, I1, r1, q1⟩ => ?_)
  obtain ⟨rfl, rfl⟩ := q1
  cases r1
  refine PySem.W.callWith_K (h₀ := X.base) I.ok.mod.kin M.kp (thn (ha.run pos pins s1 σ _ _ I1 ht) fun us s2 ⟨vs, H2, I2, r, q⟩ => ⟨I2.kIn, ?_⟩) he hpl
  exact run_make M F hr hb .nil pass0 I2 r q
end
/-- a classmethod of C that may raise -/
structure CalleeCX (P : Program) (w : World) (K : PySem.W.Frag) (mg : Str → Option Value) (base : Heap) (C : Addr) (m : Str) (k : Nat) (sp : Sp) : Prop where
  ex : ∃ (mc : Value) (p g : Addr), ClX.CRead K C mc ∧ ClX.CMet K C mc m p g ∧ FnR P w K mg base (L2.CX P w) k g sp
theorem pe_cmethFX {X : Cx} {k : Nat} {C : Addr} {sp : Sp} {m : Str} {o e : Expr} {es : List Expr} {t : TA} {ta : TE} {pos apos : Pos} {pl : Sem Bool} {EE : XK} (c : CalleeCX X.prog X.w X.K X.mg X.base C m k sp) (tk : Takes X (fun cls d _ H => EE cls d H)) (hr : Room k X.A) (he : PE X o ta) (ha : PA X (e :: es) t)
    (hst : starEach (e :: es) X.env = (false, eval e X.env) :: starEach es X.env := by rfl) (hpl : (backTo pos (starEach es X.env)).any (·.1) = false := by rfl)
    (ht : eval (.Call (.Attribute o m apos) (e :: es) [] pos) X.env = (do
      let ov ← eval o X.env
      standAt apos.atName
      let (f, first) ← holding [ov] (getMethod ov m pl)
      callWith pos f first (backTo pos (starEach (e :: es) X.env)) (backToKw pos (keywordEach [] X.env))) := by rfl) :
    PE X (.Call (.Attribute o m apos) (e :: es) [] pos) (ClX.tCMeth C sp EE ta t) := by
  obtain ⟨mc, p, g, r, cm, F⟩ := c.ex
  exact ClX.pe_cmeth he r cm F hr (passes_call tk fun _ _ _ _ h => h) ha hst hpl ht
end Bk
set_option Elab.async false
set_option maxRecDepth 100000
namespace Bk
open PySem L2
def top (i : Nat) : Stmt := PySem.Challenge.pw_barrelrow_k44_whole_operations_reverted.main.body.getD i (.Pass ⟨0, 0, 0, 0⟩)
abbrev s_InvalidRow_init : Stmt := inClass (top 3) 0
abbrev P_InvalidRow_init : List Str := ["self", "part", "index"]
theorem nsc_InvalidRow_init : NdefX.NScope (P_InvalidRow_init ++ [clsS]) P_InvalidRow_init [clsS] (defScope s_InvalidRow_init) := NdefX.nscope_by (by decide +kernel)
abbrev s_UnknownBarrel_init : Stmt := inClass (top 4) 0
abbrev P_UnknownBarrel_init : List Str := ["self", "name"]
theorem nsc_UnknownBarrel_init : NdefX.NScope (P_UnknownBarrel_init ++ [clsS]) P_UnknownBarrel_init [clsS] (defScope s_UnknownBarrel_init) := NdefX.nscope_by (by decide +kernel)
abbrev s_InvalidWeather_init : Stmt := inClass (top 7) 0
abbrev P_InvalidWeather_init : List Str := ["self", "part"]
theorem nsc_InvalidWeather_init : NdefX.NScope (P_InvalidWeather_init ++ [clsS]) P_InvalidWeather_init [clsS] (defScope s_InvalidWeather_init) := NdefX.nscope_by (by decide +kernel)
abbrev s_InvalidOperation_init : Stmt := inClass (top 8) 0
abbrev P_InvalidOperation_init : List Str := ["self", "index"]
theorem nsc_InvalidOperation_init : NdefX.NScope (P_InvalidOperation_init ++ [clsS]) P_InvalidOperation_init [clsS] (defScope s_InvalidOperation_init) := NdefX.nscope_by (by decide +kernel)
abbrev s_InvalidText_init : Stmt := inClass (top 9) 0
abbrev P_InvalidText_init : List Str := ["self", "line"]
theorem nsc_InvalidText_init : NdefX.NScope (P_InvalidText_init ++ [clsS]) P_InvalidText_init [clsS] (defScope s_InvalidText_init) := NdefX.nscope_by (by decide +kernel)
abbrev s_DaybookError_init : Stmt := inClass (top 10) 0
abbrev P_DaybookError_init : List Str := ["self", "line"]
theorem nsc_DaybookError_init : NdefX.NScope (P_DaybookError_init ++ [clsS]) P_DaybookError_init [clsS] (defScope s_DaybookError_init) := NdefX.nscope_by (by decide +kernel)
abbrev s_DecodeError_init : Stmt := inClass (top 11) 0
abbrev P_DecodeError_init : List Str := ["self", "offset"]
theorem nsc_DecodeError_init : NdefX.NScope (P_DecodeError_init ++ [clsS]) P_DecodeError_init [clsS] (defScope s_DecodeError_init) := NdefX.nscope_by (by decide +kernel)
-- Passage.__init__: 0 self, 1 start, 2 barrel, 3 inflow
abbrev s_Passage_init : Stmt := inClass (top 14) 0
abbrev N_Passage_init : List Str := ["self", "start", "barrel", "inflow"]
abbrev P_Passage_init : List Str := ["self", "start", "barrel", "inflow"]
theorem sc_Passage_init : FnScope N_Passage_init P_Passage_init (defScope s_Passage_init) := ⟨rfl, rfl, rfl, by decide +kernel, rfl, by decide +kernel, by decide +kernel⟩
-- Passage.let_in: 0 self, 1 inflow, 2 draws, 3 level, 4 water, 5 wish, 6 over, 7 there, 8 drawn
abbrev s_Passage_let_in : Stmt := inClass (top 14) 1
abbrev N_Passage_let_in : List Str := ["self", "inflow", "draws", "level", "water", "wish", "over", "there", "drawn"]
abbrev P_Passage_let_in : List Str := ["self", "inflow", "draws"]
theorem sc_Passage_let_in : FnScope N_Passage_let_in P_Passage_let_in (defScope s_Passage_let_in) := ⟨rfl, rfl, rfl, by decide +kernel, rfl, by decide +kernel, by decide +kernel⟩
-- Passage.gain: 0 self
abbrev s_Passage_gain : Stmt := inClass (top 14) 2
abbrev N_Passage_gain : List Str := ["self"]
abbrev P_Passage_gain : List Str := ["self"]
theorem sc_Passage_gain : FnScope N_Passage_gain P_Passage_gain (defScope s_Passage_gain) := ⟨rfl, rfl, rfl, by decide +kernel, rfl, by decide +kernel, by decide +kernel⟩
-- Passage.rounds_alike: 0 self, 1 gain, 2 highest, 3 level, 4 drawn
abbrev s_Passage_rounds_alike : Stmt := inClass (top 14) 4
abbrev N_Passage_rounds_alike : List Str := ["self", "gain", "highest", "level", "drawn"]
abbrev P_Passage_rounds_alike : List Str := ["self"]
theorem sc_Passage_rounds_alike : FnScope N_Passage_rounds_alike P_Passage_rounds_alike (defScope s_Passage_rounds_alike) := ⟨rfl, rfl, rfl, by decide +kernel, rfl, by decide +kernel, by decide +kernel⟩
-- pass_ticks: 0 rain, 1 barrels, 2 levels, 3 passages, 4 over, 5 barrel, 6 level, 7 inflow, 8 passage, 9 fall, 10 more
abbrev s_pass_ticks : Stmt := top 15
abbrev N_pass_ticks : List Str := ["rain", "barrels", "levels", "passages", "over", "barrel", "level", "inflow", "passage", "fall", "more"]
abbrev P_pass_ticks : List Str := ["rain", "barrels", "levels"]
theorem sc_pass_ticks : FnScope N_pass_ticks P_pass_ticks (defScope s_pass_ticks) := ⟨rfl, rfl, rfl, by decide +kernel, rfl, by decide +kernel, by decide +kernel⟩
-- walk: 0 rain, 1 barrels, 2 rounds, 3 levels, 4 steps, 5 left, 6 passages, 7 count, 8 passage
abbrev s_walk : Stmt := top 16
abbrev N_walk : List Str := ["rain", "barrels", "rounds", "levels", "steps", "left", "passages", "count", "passage"]
abbrev P_walk : List Str := ["rain", "barrels", "rounds"]
theorem sc_walk : FnScope N_walk P_walk (defScope s_walk) := ⟨rfl, rfl, rfl, by decide +kernel, rfl, by decide +kernel, by decide +kernel⟩
-- Row.__init__: 0 self, 1 rain, 2 barrels
abbrev s_Row_init : Stmt := inClass (top 24) 2
abbrev N_Row_init : List Str := ["self", "rain", "barrels"]
abbrev P_Row_init : List Str := ["self", "rain", "barrels"]
theorem sc_Row_init : FnScope N_Row_init P_Row_init (defScope s_Row_init) := ⟨rfl, rfl, rfl, by decide +kernel, rfl, by decide +kernel, by decide +kernel⟩
-- Row.equal: 0 cls, 1 rain, 2 capacity, 3 names, 4 draws, 5 barrels, 6 name
abbrev s_Row_equal : Stmt := inClass (top 24) 3
abbrev N_Row_equal : List Str := ["cls", "rain", "capacity", "names", "draws", "barrels", "name"]
abbrev P_Row_equal : List Str := ["cls", "rain", "capacity", "names"]
theorem sc_Row_equal : FnScope N_Row_equal P_Row_equal (defScope s_Row_equal) := ⟨rfl, rfl, rfl, by decide +kernel, rfl, by decide +kernel, by decide +kernel⟩
-- Row.rain: 0 self
abbrev s_Row_rain : Stmt := inClass (top 24) 4
abbrev N_Row_rain : List Str := ["self"]
abbrev P_Row_rain : List Str := ["self"]
theorem sc_Row_rain : FnScope N_Row_rain P_Row_rain (defScope s_Row_rain) := ⟨rfl, rfl, rfl, by decide +kernel, rfl, by decide +kernel, by decide +kernel⟩
-- Row.barrels: 0 self
abbrev s_Row_barrels : Stmt := inClass (top 24) 5
abbrev N_Row_barrels : List Str := ["self"]
abbrev P_Row_barrels : List Str := ["self"]
theorem sc_Row_barrels : FnScope N_Row_barrels P_Row_barrels (defScope s_Row_barrels) := ⟨rfl, rfl, rfl, by decide +kernel, rfl, by decide +kernel, by decide +kernel⟩
-- Row.names: 0 self, 1 barrel
abbrev s_Row_names : Stmt := inClass (top 24) 6
abbrev N_Row_names : List Str := ["self", "barrel"]
abbrev P_Row_names : List Str := ["self"]
theorem sc_Row_names : FnScope N_Row_names P_Row_names (defScope s_Row_names) := ⟨rfl, rfl, rfl, by decide +kernel, rfl, by decide +kernel, by decide +kernel⟩
-- Row.__len__: 0 self
abbrev s_Row_len : Stmt := inClass (top 24) 7
abbrev N_Row_len : List Str := ["self"]
abbrev P_Row_len : List Str := ["self"]
theorem sc_Row_len : FnScope N_Row_len P_Row_len (defScope s_Row_len) := ⟨rfl, rfl, rfl, by decide +kernel, rfl, by decide +kernel, by decide +kernel⟩
-- Row.__contains__: 0 self, 1 x
abbrev s_Row_contains : Stmt := inClass (top 24) 8
abbrev N_Row_contains : List Str := ["self", "x"]
abbrev P_Row_contains : List Str := ["self", "x"]
theorem sc_Row_contains : FnScope N_Row_contains P_Row_contains (defScope s_Row_contains) := ⟨rfl, rfl, rfl, by decide +kernel, rfl, by decide +kernel, by decide +kernel⟩
-- Row.__getitem__: 0 self, 1 at, 2 barrel
abbrev s_Row_getitem : Stmt := inClass (top 24) 9
abbrev N_Row_getitem : List Str := ["self", "at", "barrel"]
abbrev P_Row_getitem : List Str := ["self", "at"]
theorem sc_Row_getitem : FnScope N_Row_getitem P_Row_getitem (defScope s_Row_getitem) := ⟨rfl, rfl, rfl, by decide +kernel, rfl, by decide +kernel, by decide +kernel⟩
-- Row.__iter__: 0 self
abbrev s_Row_iter : Stmt := inClass (top 24) 10
abbrev N_Row_iter : List Str := ["self"]
abbrev P_Row_iter : List Str := ["self"]
theorem sc_Row_iter : FnScope N_Row_iter P_Row_iter (defScope s_Row_iter) := ⟨rfl, rfl, rfl, by decide +kernel, rfl, by decide +kernel, by decide +kernel⟩
-- Row.__sub__: 0 self, 1 other, 2 place, 3 barrels
abbrev s_Row_sub : Stmt := inClass (top 24) 11
abbrev N_Row_sub : List Str := ["self", "other", "place", "barrels"]
abbrev P_Row_sub : List Str := ["self", "other"]
theorem sc_Row_sub : FnScope N_Row_sub P_Row_sub (defScope s_Row_sub) := ⟨rfl, rfl, rfl, by decide +kernel, rfl, by decide +kernel, by decide +kernel⟩
-- Row.__add__: 0 self, 1 other, 2 barrels
abbrev s_Row_add : Stmt := inClass (top 24) 12
abbrev N_Row_add : List Str := ["self", "other", "barrels"]
abbrev P_Row_add : List Str := ["self", "other"]
theorem sc_Row_add : FnScope N_Row_add P_Row_add (defScope s_Row_add) := ⟨rfl, rfl, rfl, by decide +kernel, rfl, by decide +kernel, by decide +kernel⟩
-- Row.__eq__: 0 self, 1 other
abbrev s_Row_eq : Stmt := inClass (top 24) 13
abbrev N_Row_eq : List Str := ["self", "other"]
abbrev P_Row_eq : List Str := ["self", "other"]
theorem sc_Row_eq : FnScope N_Row_eq P_Row_eq (defScope s_Row_eq) := ⟨rfl, rfl, rfl, by decide +kernel, rfl, by decide +kernel, by decide +kernel⟩
-- Row.__call__: 0 self, 1 name, 2 tick, 3 barrels, 4 rounds, 5 index, 6 levels, 7 _, 8 passages
abbrev s_Row_call : Stmt := inClass (top 24) 14
abbrev N_Row_call : List Str := ["self", "name", "tick", "barrels", "rounds", "index", "levels", "_", "passages"]
abbrev P_Row_call : List Str := ["self", "name", "tick"]
theorem sc_Row_call : FnScope N_Row_call P_Row_call (defScope s_Row_call) := ⟨rfl, rfl, rfl, by decide +kernel, rfl, by decide +kernel, by decide +kernel⟩
-- is_number: 0 number, 1 least, 2 greatest
abbrev s_is_number : Stmt := top 25
abbrev N_is_number : List Str := ["number", "least", "greatest"]
abbrev P_is_number : List Str := ["number", "least", "greatest"]
theorem sc_is_number : FnScope N_is_number P_is_number (defScope s_is_number) := ⟨rfl, rfl, rfl, by decide +kernel, rfl, by decide +kernel, by decide +kernel⟩
-- check_number: 0 number, 1 least, 2 greatest
abbrev s_check_number : Stmt := top 26
abbrev N_check_number : List Str := ["number", "least", "greatest"]
abbrev P_check_number : List Str := ["number", "least", "greatest"]
theorem sc_check_number : FnScope N_check_number P_check_number (defScope s_check_number) := ⟨rfl, rfl, rfl, by decide +kernel, rfl, by decide +kernel, by decide +kernel⟩
-- is_name: 0 name, 1 letter
abbrev s_is_name : Stmt := top 27
abbrev N_is_name : List Str := ["name", "letter"]
abbrev P_is_name : List Str := ["name"]
theorem sc_is_name : FnScope N_is_name P_is_name (defScope s_is_name) := ⟨rfl, rfl, rfl, by decide +kernel, rfl, by decide +kernel, by decide +kernel⟩
-- is_barrel: 0 barrel, 1 ticks, 2 name, 3 capacity, 4 roof, 5 draws, 6 wish
abbrev s_is_barrel : Stmt := top 28
abbrev N_is_barrel : List Str := ["barrel", "ticks", "name", "capacity", "roof", "draws", "wish"]
abbrev P_is_barrel : List Str := ["barrel", "ticks"]
theorem sc_is_barrel : FnScope N_is_barrel P_is_barrel (defScope s_is_barrel) := ⟨rfl, rfl, rfl, by decide +kernel, rfl, by decide +kernel, by decide +kernel⟩
-- check_rain: 0 rain, 1 index, 2 amount
abbrev s_check_rain : Stmt := top 29
abbrev N_check_rain : List Str := ["rain", "index", "amount"]
abbrev P_check_rain : List Str := ["rain"]
theorem sc_check_rain : FnScope N_check_rain P_check_rain (defScope s_check_rain) := ⟨rfl, rfl, rfl, by decide +kernel, rfl, by decide +kernel, by decide +kernel⟩
-- check_barrels: 0 barrels, 1 ticks, 2 names, 3 index, 4 barrel, 5 known
abbrev s_check_barrels : Stmt := top 30
abbrev N_check_barrels : List Str := ["barrels", "ticks", "names", "index", "barrel", "known"]
abbrev P_check_barrels : List Str := ["barrels", "ticks"]
theorem sc_check_barrels : FnScope N_check_barrels P_check_barrels (defScope s_check_barrels) := ⟨rfl, rfl, rfl, by decide +kernel, rfl, by decide +kernel, by decide +kernel⟩
-- place_of: 0 row, 1 name, 2 place, 3 known
abbrev s_place_of : Stmt := top 31
abbrev N_place_of : List Str := ["row", "name", "place", "known"]
abbrev P_place_of : List Str := ["row", "name"]
theorem sc_place_of : FnScope N_place_of P_place_of (defScope s_place_of) := ⟨rfl, rfl, rfl, by decide +kernel, rfl, by decide +kernel, by decide +kernel⟩
-- barrels_down_to: 0 row, 1 name
abbrev s_barrels_down_to : Stmt := top 32
abbrev N_barrels_down_to : List Str := ["row", "name"]
abbrev P_barrels_down_to : List Str := ["row", "name"]
theorem sc_barrels_down_to : FnScope N_barrels_down_to P_barrels_down_to (defScope s_barrels_down_to) := ⟨rfl, rfl, rfl, by decide +kernel, rfl, by decide +kernel, by decide +kernel⟩
-- Moment.__init__: 0 self, 1 tick, 2 heights, 3 locks, 4 lost, 5 missed
abbrev s_Moment_init : Stmt := inClass (top 36) 0
abbrev N_Moment_init : List Str := ["self", "tick", "heights", "locks", "lost", "missed"]
abbrev P_Moment_init : List Str := ["self", "tick", "heights", "locks", "lost", "missed"]
theorem sc_Moment_init : FnScope N_Moment_init P_Moment_init (defScope s_Moment_init) := ⟨rfl, rfl, rfl, by decide +kernel, rfl, by decide +kernel, by decide +kernel⟩
-- LiveRow.__init__: 0 self, 1 row
abbrev s_LiveRow_init : Stmt := inClass (top 37) 0
abbrev N_LiveRow_init : List Str := ["self", "row"]
abbrev P_LiveRow_init : List Str := ["self", "row"]
theorem sc_LiveRow_init : FnScope N_LiveRow_init P_LiveRow_init (defScope s_LiveRow_init) := ⟨rfl, rfl, rfl, by decide +kernel, rfl, by decide +kernel, by decide +kernel⟩
-- LiveRow.replay: 0 cls, 1 row, 2 operations, 3 live
abbrev s_LiveRow_replay : Stmt := inClass (top 37) 1
abbrev N_LiveRow_replay : List Str := ["cls", "row", "operations", "live"]
abbrev P_LiveRow_replay : List Str := ["cls", "row", "operations"]
theorem sc_LiveRow_replay : FnScope N_LiveRow_replay P_LiveRow_replay (defScope s_LiveRow_replay) := ⟨rfl, rfl, rfl, by decide +kernel, rfl, by decide +kernel, by decide +kernel⟩
-- LiveRow.now: 0 self
abbrev s_LiveRow_now : Stmt := inClass (top 37) 2
abbrev N_LiveRow_now : List Str := ["self"]
abbrev P_LiveRow_now : List Str := ["self"]
theorem sc_LiveRow_now : FnScope N_LiveRow_now P_LiveRow_now (defScope s_LiveRow_now) := ⟨rfl, rfl, rfl, by decide +kernel, rfl, by decide +kernel, by decide +kernel⟩
-- LiveRow.levels: 0 self, 1 name, 2 height
abbrev s_LiveRow_levels : Stmt := inClass (top 37) 3
abbrev N_LiveRow_levels : List Str := ["self", "name", "height"]
abbrev P_LiveRow_levels : List Str := ["self"]
theorem sc_LiveRow_levels : FnScope N_LiveRow_levels P_LiveRow_levels (defScope s_LiveRow_levels) := ⟨rfl, rfl, rfl, by decide +kernel, rfl, by decide +kernel, by decide +kernel⟩
-- LiveRow.lost_water: 0 self
abbrev s_LiveRow_lost_water : Stmt := inClass (top 37) 4
abbrev N_LiveRow_lost_water : List Str := ["self"]
abbrev P_LiveRow_lost_water : List Str := ["self"]
theorem sc_LiveRow_lost_water : FnScope N_LiveRow_lost_water P_LiveRow_lost_water (defScope s_LiveRow_lost_water) := ⟨rfl, rfl, rfl, by decide +kernel, rfl, by decide +kernel, by decide +kernel⟩
-- LiveRow.missed_water: 0 self
abbrev s_LiveRow_missed_water : Stmt := inClass (top 37) 5
abbrev N_LiveRow_missed_water : List Str := ["self"]
abbrev P_LiveRow_missed_water : List Str := ["self"]
theorem sc_LiveRow_missed_water : FnScope N_LiveRow_missed_water P_LiveRow_missed_water (defScope s_LiveRow_missed_water) := ⟨rfl, rfl, rfl, by decide +kernel, rfl, by decide +kernel, by decide +kernel⟩
-- LiveRow.locked_names: 0 self, 1 name, 2 locked
abbrev s_LiveRow_locked_names : Stmt := inClass (top 37) 6
abbrev N_LiveRow_locked_names : List Str := ["self", "name", "locked"]
abbrev P_LiveRow_locked_names : List Str := ["self"]
theorem sc_LiveRow_locked_names : FnScope N_LiveRow_locked_names P_LiveRow_locked_names (defScope s_LiveRow_locked_names) := ⟨rfl, rfl, rfl, by decide +kernel, rfl, by decide +kernel, by decide +kernel⟩
-- LiveRow.history: 0 self, 1 step
abbrev s_LiveRow_history : Stmt := inClass (top 37) 7
abbrev N_LiveRow_history : List Str := ["self", "step"]
abbrev P_LiveRow_history : List Str := ["self"]
theorem sc_LiveRow_history : FnScope N_LiveRow_history P_LiveRow_history (defScope s_LiveRow_history) := ⟨rfl, rfl, rfl, by decide +kernel, rfl, by decide +kernel, by decide +kernel⟩
-- LiveRow.pour: 0 self, 1 amount, 2 before
abbrev s_LiveRow_pour : Stmt := inClass (top 37) 8
abbrev N_LiveRow_pour : List Str := ["self", "amount", "before"]
abbrev P_LiveRow_pour : List Str := ["self", "amount"]
theorem sc_LiveRow_pour : FnScope N_LiveRow_pour P_LiveRow_pour (defScope s_LiveRow_pour) := ⟨rfl, rfl, rfl, by decide +kernel, rfl, by decide +kernel, by decide +kernel⟩
-- LiveRow.scoop: 0 self, 1 name, 2 amount, 3 place, 4 taken
abbrev s_LiveRow_scoop : Stmt := inClass (top 37) 9
abbrev N_LiveRow_scoop : List Str := ["self", "name", "amount", "place", "taken"]
abbrev P_LiveRow_scoop : List Str := ["self", "name", "amount"]
theorem sc_LiveRow_scoop : FnScope N_LiveRow_scoop P_LiveRow_scoop (defScope s_LiveRow_scoop) := ⟨rfl, rfl, rfl, by decide +kernel, rfl, by decide +kernel, by decide +kernel⟩
-- LiveRow.lock: 0 self, 1 name
abbrev s_LiveRow_lock : Stmt := inClass (top 37) 10
abbrev N_LiveRow_lock : List Str := ["self", "name"]
abbrev P_LiveRow_lock : List Str := ["self", "name"]
theorem sc_LiveRow_lock : FnScope N_LiveRow_lock P_LiveRow_lock (defScope s_LiveRow_lock) := ⟨rfl, rfl, rfl, by decide +kernel, rfl, by decide +kernel, by decide +kernel⟩
-- LiveRow.unlock: 0 self, 1 name
abbrev s_LiveRow_unlock : Stmt := inClass (top 37) 11
abbrev N_LiveRow_unlock : List Str := ["self", "name"]
abbrev P_LiveRow_unlock : List Str := ["self", "name"]
theorem sc_LiveRow_unlock : FnScope N_LiveRow_unlock P_LiveRow_unlock (defScope s_LiveRow_unlock) := ⟨rfl, rfl, rfl, by decide +kernel, rfl, by decide +kernel, by decide +kernel⟩
-- LiveRow.undo: 0 self, 1 operation, 2 before
abbrev s_LiveRow_undo : Stmt := inClass (top 37) 12
abbrev N_LiveRow_undo : List Str := ["self", "operation", "before"]
abbrev P_LiveRow_undo : List Str := ["self"]
theorem sc_LiveRow_undo : FnScope N_LiveRow_undo P_LiveRow_undo (defScope s_LiveRow_undo) := ⟨rfl, rfl, rfl, by decide +kernel, rfl, by decide +kernel, by decide +kernel⟩
-- LiveRow.redo: 0 self, 1 operation, 2 after
abbrev s_LiveRow_redo : Stmt := inClass (top 37) 13
abbrev N_LiveRow_redo : List Str := ["self", "operation", "after"]
abbrev P_LiveRow_redo : List Str := ["self"]
theorem sc_LiveRow_redo : FnScope N_LiveRow_redo P_LiveRow_redo (defScope s_LiveRow_redo) := ⟨rfl, rfl, rfl, by decide +kernel, rfl, by decide +kernel, by decide +kernel⟩
-- LiveRow.apply_all: 0 self, 1 operations, 2 ahead, 3 results, 4 operation
abbrev s_LiveRow_apply_all : Stmt := inClass (top 37) 14
abbrev N_LiveRow_apply_all : List Str := ["self", "operations", "ahead", "results", "operation"]
abbrev P_LiveRow_apply_all : List Str := ["self", "operations"]
theorem sc_LiveRow_apply_all : FnScope N_LiveRow_apply_all P_LiveRow_apply_all (defScope s_LiveRow_apply_all) := ⟨rfl, rfl, rfl, by decide +kernel, rfl, by decide +kernel, by decide +kernel⟩
-- LiveRow._perform: 0 self, 1 operation, 2 word
abbrev s_LiveRow_perform : Stmt := inClass (top 37) 15
abbrev N_LiveRow_perform : List Str := ["self", "operation", "word"]
abbrev P_LiveRow_perform : List Str := ["self", "operation"]
theorem sc_LiveRow_perform : FnScope N_LiveRow_perform P_LiveRow_perform (defScope s_LiveRow_perform) := ⟨rfl, rfl, rfl, by decide +kernel, rfl, by decide +kernel, by decide +kernel⟩
-- LiveRow._turn: 0 self, 1 operation, 2 locked, 3 place, 4 before
abbrev s_LiveRow_turn : Stmt := inClass (top 37) 16
abbrev N_LiveRow_turn : List Str := ["self", "operation", "locked", "place", "before"]
abbrev P_LiveRow_turn : List Str := ["self", "operation", "locked"]
theorem sc_LiveRow_turn : FnScope N_LiveRow_turn P_LiveRow_turn (defScope s_LiveRow_turn) := ⟨rfl, rfl, rfl, by decide +kernel, rfl, by decide +kernel, by decide +kernel⟩
-- LiveRow._go_on: 0 self, 1 operation, 2 moment
abbrev s_LiveRow_go_on : Stmt := inClass (top 37) 17
abbrev N_LiveRow_go_on : List Str := ["self", "operation", "moment"]
abbrev P_LiveRow_go_on : List Str := ["self", "operation", "moment"]
theorem sc_LiveRow_go_on : FnScope N_LiveRow_go_on P_LiveRow_go_on (defScope s_LiveRow_go_on) := ⟨rfl, rfl, rfl, by decide +kernel, rfl, by decide +kernel, by decide +kernel⟩
-- LiveRow._take_over: 0 self, 1 other
abbrev s_LiveRow_take_over : Stmt := inClass (top 37) 18
abbrev N_LiveRow_take_over : List Str := ["self", "other"]
abbrev P_LiveRow_take_over : List Str := ["self", "other"]
theorem sc_LiveRow_take_over : FnScope N_LiveRow_take_over P_LiveRow_take_over (defScope s_LiveRow_take_over) := ⟨rfl, rfl, rfl, by decide +kernel, rfl, by decide +kernel, by decide +kernel⟩
-- after_tick: 0 row, 1 moment, 2 amount, 3 at, 4 wishes, 5 allowed, 6 barrels, 7 passages, 8 heights, 9 lost, 10 missed, 11 barrel, 12 wish, 13 locked, 14 passage
abbrev s_after_tick : Stmt := top 38
abbrev N_after_tick : List Str := ["row", "moment", "amount", "at", "wishes", "allowed", "barrels", "passages", "heights", "lost", "missed", "barrel", "wish", "locked", "passage"]
abbrev P_after_tick : List Str := ["row", "moment", "amount"]
theorem sc_after_tick : FnScope N_after_tick P_after_tick (defScope s_after_tick) := ⟨rfl, rfl, rfl, by decide +kernel, rfl, by decide +kernel, by decide +kernel⟩
-- after_scoop: 0 moment, 1 place, 2 taken, 3 heights
abbrev s_after_scoop : Stmt := top 39
abbrev N_after_scoop : List Str := ["moment", "place", "taken", "heights"]
abbrev P_after_scoop : List Str := ["moment", "place", "taken"]
theorem sc_after_scoop : FnScope N_after_scoop P_after_scoop (defScope s_after_scoop) := ⟨rfl, rfl, rfl, by decide +kernel, rfl, by decide +kernel, by decide +kernel⟩
-- after_turn: 0 moment, 1 place, 2 locked, 3 locks
abbrev s_after_turn : Stmt := top 40
abbrev N_after_turn : List Str := ["moment", "place", "locked", "locks"]
abbrev P_after_turn : List Str := ["moment", "place", "locked"]
theorem sc_after_turn : FnScope N_after_turn P_after_turn (defScope s_after_turn) := ⟨rfl, rfl, rfl, by decide +kernel, rfl, by decide +kernel, by decide +kernel⟩
-- check_operations: 0 operations, 1 index, 2 operation
abbrev s_check_operations : Stmt := top 41
abbrev N_check_operations : List Str := ["operations", "index", "operation"]
abbrev P_check_operations : List Str := ["operations"]
theorem sc_check_operations : FnScope N_check_operations P_check_operations (defScope s_check_operations) := ⟨rfl, rfl, rfl, by decide +kernel, rfl, by decide +kernel, by decide +kernel⟩
-- _law_mix: 0 _law_script, 1 _law_seed, 2 _law_mixed, 3 _law_cell
abbrev s_law_mix : Stmt := top 43
abbrev N_law_mix : List Str := ["_law_script", "_law_seed", "_law_mixed", "_law_cell"]
abbrev P_law_mix : List Str := ["_law_script", "_law_seed"]
theorem sc_law_mix : FnScope N_law_mix P_law_mix (defScope s_law_mix) := ⟨rfl, rfl, rfl, by decide +kernel, rfl, by decide +kernel, by decide +kernel⟩
-- _law_next: 0 _law_h, 1 _law_limit, 2 _law_cell
abbrev s_law_next : Stmt := top 44
abbrev N_law_next : List Str := ["_law_h", "_law_limit", "_law_cell"]
abbrev P_law_next : List Str := ["_law_h", "_law_limit"]
theorem sc_law_next : FnScope N_law_next P_law_next (defScope s_law_next) := ⟨rfl, rfl, rfl, by decide +kernel, rfl, by decide +kernel, by decide +kernel⟩
-- _law_alike: 0 _law_found, 1 _law_due, 2 _law_k
abbrev s_law_alike : Stmt := top 45
abbrev N_law_alike : List Str := ["_law_found", "_law_due", "_law_k"]
abbrev P_law_alike : List Str := ["_law_found", "_law_due"]
theorem sc_law_alike : FnScope N_law_alike P_law_alike (defScope s_law_alike) := ⟨rfl, rfl, rfl, by decide +kernel, rfl, by decide +kernel, by decide +kernel⟩
-- _law_outcome: 0 _law_call, 1 _law_kinds, 2 _law_word, 3 e
abbrev s_law_outcome : Stmt := top 46
abbrev N_law_outcome : List Str := ["_law_call", "_law_kinds", "_law_word", "e"]
abbrev P_law_outcome : List Str := ["_law_call"]
theorem sc_law_outcome : FnScope N_law_outcome P_law_outcome (defScope s_law_outcome) := ⟨rfl, rfl, rfl, by decide +kernel, rfl, by decide +kernel, by decide +kernel⟩
-- _law_parts: 0 _law_h, 1 _law_most, 2 _law_wide, 3 _law_size, 4 _law_found, 5 _law_rain, 6 _law_k, 7 _law_name, 8 _law_draws, 9 _law_one
abbrev s_law_parts : Stmt := top 47
abbrev N_law_parts : List Str := ["_law_h", "_law_most", "_law_wide", "_law_size", "_law_found", "_law_rain", "_law_k", "_law_name", "_law_draws", "_law_one"]
abbrev P_law_parts : List Str := ["_law_h", "_law_most", "_law_wide"]
theorem sc_law_parts : FnScope N_law_parts P_law_parts (defScope s_law_parts) := ⟨rfl, rfl, rfl, by decide +kernel, rfl, by decide +kernel, by decide +kernel⟩
-- _law_row: 0 _law_parts_here, 1 _law_row_here, 2 _law_barrel
abbrev s_law_row : Stmt := top 48
abbrev N_law_row : List Str := ["_law_parts_here", "_law_row_here", "_law_barrel"]
abbrev P_law_row : List Str := ["_law_parts_here"]
theorem sc_law_row : FnScope N_law_row P_law_row (defScope s_law_row) := ⟨rfl, rfl, rfl, by decide +kernel, rfl, by decide +kernel, by decide +kernel⟩
-- _law_told: 0 _law_live, 1 _law_found
abbrev s_law_told : Stmt := top 49
abbrev N_law_told : List Str := ["_law_live", "_law_found"]
abbrev P_law_told : List Str := ["_law_live"]
theorem sc_law_told : FnScope N_law_told P_law_told (defScope s_law_told) := ⟨rfl, rfl, rfl, by decide +kernel, rfl, by decide +kernel, by decide +kernel⟩
-- _law_deed: 0 _law_h, 1 _law_kind
abbrev s_law_deed : Stmt := top 50
abbrev N_law_deed : List Str := ["_law_h", "_law_kind"]
abbrev P_law_deed : List Str := ["_law_h"]
theorem sc_law_deed : FnScope N_law_deed P_law_deed (defScope s_law_deed) := ⟨rfl, rfl, rfl, by decide +kernel, rfl, by decide +kernel, by decide +kernel⟩
-- law: 0 _law_script, 1 _law_h, 2 _law_row_here, 3 _law_live, 4 _law_seen, 5 _law_time, 6 _law_many, 7 _law_back, 8 _law_k, 9 _law_left, 10 _law_odd, 11 _law_twin, 12 _law_first
abbrev s_law : Stmt := top 51
abbrev N_law : List Str := ["_law_script", "_law_h", "_law_row_here", "_law_live", "_law_seen", "_law_time", "_law_many", "_law_back", "_law_k", "_law_left", "_law_odd", "_law_twin", "_law_first"]
abbrev P_law : List Str := ["_law_script"]
theorem sc_law : FnScope N_law P_law (defScope s_law) := ⟨rfl, rfl, rfl, by decide +kernel, rfl, by decide +kernel, by decide +kernel⟩
structure Txt (K : PySem.W.Frag) (mg : Str → Option Value) (C_Passage : Addr) (C_Row : Addr) : Prop extends Nb mg where
  g_FOREVER : ∃ t, mg "FOREVER" = some (.int 1000000000000000001 t)
  g_MAX_FALL : ∃ t, mg "MAX_FALL" = some (.int 1000000 t)
  g_MAX_LETTERS : ∃ t, mg "MAX_LETTERS" = some (.int 8 t)
  g_MAX_CAPACITY : ∃ t, mg "MAX_CAPACITY" = some (.int 1000000000 t)
  g_MAX_ROOF : ∃ t, mg "MAX_ROOF" = some (.int 100 t)
  g_MAX_WISH : ∃ t, mg "MAX_WISH" = some (.int 1000000000 t)
  g_LAST_TICK : ∃ t, mg "LAST_TICK" = some (.int 1000000000000000000 t)
  g_MAX_SCOOP : ∃ t, mg "MAX_SCOOP" = some (.int 1000000000 t)
  g_Passage : mg "Passage" = some (.ref C_Passage)
  cl_Passage : Cls K C_Passage
  sf_Passage : PySem.W.selfFirst K C_Passage = true
  na_Passage_start : NoAttr K C_Passage "start"
  na_Passage_capacity : NoAttr K C_Passage "capacity"
  na_Passage_after : NoAttr K C_Passage "after"
  na_Passage_drawn : NoAttr K C_Passage "drawn"
  na_Passage_missed : NoAttr K C_Passage "missed"
  na_Passage_over : NoAttr K C_Passage "over"
  g_Row : mg "Row" = some (.ref C_Row)
  cl_Row : Cls K C_Row
  sf_Row : PySem.W.selfFirst K C_Row = true
  na_Row_rain : NoAttr K C_Row "_rain"
  na_Row_barrels : NoAttr K C_Row "_barrels"
structure Txt_Moment (K : PySem.W.Frag) (mg : Str → Option Value) (C_Moment : Addr) : Prop where
  g_Moment : mg "Moment" = some (.ref C_Moment)
  cl_Moment : Cls K C_Moment
  sf_Moment : PySem.W.selfFirst K C_Moment = true
  na_Moment_tick : NoAttr K C_Moment "tick"
  na_Moment_heights : NoAttr K C_Moment "heights"
  na_Moment_locks : NoAttr K C_Moment "locks"
  na_Moment_lost : NoAttr K C_Moment "lost"
  na_Moment_missed : NoAttr K C_Moment "missed"
structure Txt_LiveRow (K : PySem.W.Frag) (mg : Str → Option Value) (C_LiveRow : Addr) : Prop where
  g_LiveRow : mg "LiveRow" = some (.ref C_LiveRow)
  cl_LiveRow : Cls K C_LiveRow
  sf_LiveRow : PySem.W.selfFirst K C_LiveRow = true
  na_LiveRow_row : NoAttr K C_LiveRow "_row"
  na_LiveRow_moment : NoAttr K C_LiveRow "_moment"
  na_LiveRow_done : NoAttr K C_LiveRow "_done"
  na_LiveRow_undone : NoAttr K C_LiveRow "_undone"
end Bk
set_option Elab.async false
set_option maxRecDepth 100000
set_option maxHeartbeats 1000000
namespace Bk
open PySem L2
section
variable {P : Program} {w : World} {K : PySem.W.Frag} {mg : Str → Option Value} {base : Heap} {CP CR : Addr}
/-! ### numbers -/
def spIsNumber : Sp := fun vs H Q _ => ∃ n lo hi : Int, vs = [.int n, .int lo, .int hi] ∧ Q (.bl (decide (lo ≤ n ∧ n ≤ hi))) H
theorem ok_is_number {f : Addr} {fd : FuncData} (F : Fun K "is_number" "is_number" s_is_number f fd) (T : Txt K mg CP CR) : FnOk P w K mg base CX0 1 f fd P_is_number spIsNumber := by
  refine F.ok sc_is_number (fun vs H Q E h => ?_) (fun cdv A outer s H vs Q E hr h => ?_)
  · obtain ⟨n, lo, hi, rfl, _⟩ := h
    rfl
  · obtain ⟨n, lo, hi, rfl, k⟩ := h
    refine ⟨_, (pss_one (ps_ret (pe_and (pe_callB call_isi (by rfl) T.n_isinstance bt_isinstance (pa_cons (pv 0) (pa_cons (pe_bltn (v := .ty "int") (by rfl) T.n_int bt_int rfl) pa_nil))) (pe_and (pe_not (pe_callB call_isi (by rfl) T.n_isinstance bt_isinstance (pa_cons (pv 0) (pa_cons (pe_bltn (v := .ty "bool") (by rfl) T.n_bool bt_bool rfl) pa_nil)))) (pe_one (pe_chain op_le op_le (pv 1) (pv 0) (pv 2))))))), ?_⟩
    refine ⟨_, rfl, _, _, _, _, true, rfl, .ty _, .base (.int n), kit_ty (by decide +kernel), _, rfl, ?_⟩
    refine iteT ⟨_, rfl, _, _, _, _, false, rfl, .ty _, .base (.int n), kit_ty (by decide +kernel), _, rfl, _, rfl, iteT ?_⟩
    refine ⟨_, rfl, _, rfl, _, _, rfl, rfl, _, rfl, ite2 (fun c => ?_) (fun c => ?_)⟩
    · have c := of_decide_eq_true c
      refine ⟨_, rfl, _, _, rfl, rfl, ?_⟩
      have e : decide (lo ≤ n ∧ n ≤ hi) = decide (n ≤ hi) := decide_eq_decide.mpr ⟨fun z => z.2, fun z => ⟨c, z⟩⟩
      rw [e] at k
      exact k
    · have e : decide (lo ≤ n ∧ n ≤ hi) = false := decide_eq_false fun z => c (decide_eq_true z.1)
      rw [e] at k
      exact k
def spCheckNumber : Sp := fun vs H Q _ => ∃ n lo hi : Int, vs = [.int n, .int lo, .int hi] ∧ lo ≤ n ∧ n ≤ hi ∧ Q .non H
theorem ok_check_number {f : Addr} {fd : FuncData} (F : Fun K "check_number" "check_number" s_check_number f fd) (T : Txt K mg CP CR) (c_is_number : Callee P w K mg base "is_number" 1 spIsNumber) : FnOk P w K mg base CX0 2 f fd P_check_number spCheckNumber := by
  refine F.ok sc_check_number (fun vs H Q E h => ?_) (fun cdv A outer s H vs Q E hr h => ?_)
  · obtain ⟨n, lo, hi, rfl, _⟩ := h
    rfl
  · obtain ⟨n, lo, hi, rfl, h1, h2, k⟩ := h
    refine ⟨_, (pss_one (ps_if (pt_not (pt_val (pe_callF c_is_number (hr.mono (by decide)) (by rfl) (pa_cons (pv 0) (pa_cons (pv 1) (pa_cons (pv 2) pa_nil))))))
        (pss_one ps_never)
        pss_nil)), ?_⟩
    refine ⟨_, rfl, _, rfl, _, rfl, _, _, _, rfl, _, rfl, ?_⟩
    rw [decide_eq_true (⟨h1, h2⟩ : lo ≤ n ∧ n ≤ hi)]
    exact iteF k
/-! ### names -/
def spIsName : Sp := fun vs H Q _ => ∃ z : Str, vs = [.str z] ∧ z.length ≤ 1000 ∧ ∀ H', Same H H' → Q (.bl (nameOk z)) H'
theorem ok_is_name {f : Addr} {fd : FuncData} (F : Fun K "is_name" "is_name" s_is_name f fd) (T : Txt K mg CP CR) : FnOk P w K mg base CX0 1 f fd P_is_name spIsName := by
  refine F.ok sc_is_name (fun vs H Q E h => ?_) (fun cdv A outer s H vs Q E hr h => ?_)
  · obtain ⟨z, rfl, _⟩ := h
    rfl
  · obtain ⟨z, rfl, hz, k⟩ := h
    refine ⟨_, (pss_one (ps_ret (pe_and (pe_chain op_le op_le pe_int (pe_callB call_len_str (by rfl) T.n_len bt_len (pa_cons (pv 0) pa_nil)) (pe_globI (by rfl) T.g_MAX_LETTERS)) (pe_one (pe_callB (cr_all rfl) (by rfl) T.n_all bt_all (pa_cons (pe_lc (own := [("letter", 1)]) (g := gName 1) (by rfl) sc_is_name.nd (pi_str (pv 0)) (blkOk_by (own := [("letter", 1)]) (N := N_is_name) (sc := defScope s_is_name) (by decide +kernel)) (fun _ _ _ _ _ => (pg_name (i := 1) sc_is_name.nd rfl (.inl rfl))) (fun _ _ _ _ _ => pts_nil) (fun _ _ _ _ _ => (pe_chain op_le_str op_le_str pe_str (pv 1) pe_str))) pa_nil)))))), ?_⟩
    refine ⟨_, rfl, _, rfl, Nat.le_trans hz (by decide), _, _, rfl, rfl, _, rfl, ite2 (fun c => ?_) (fun c => ?_)⟩
    · have c := of_decide_eq_true c
      refine ⟨_, _, rfl, rfl, _, rfl, ite2 (fun c2 => ?_) (fun c2 => ?_)⟩
      · have c2 := of_decide_eq_true c2
        refine ⟨_, rfl, z, rfl, fun D nD => lc_map walk_str (Nat.le_trans hz (by decide)) (fun i => .bl (chOk (z.cps.toList.getD i 0))) nD (fun _ _ => trivial) (fun i x H1 H2 hi s1 y => ?_) (fun H' s' e' => ?_)⟩
        · obtain ⟨rfl, c0, hc0, rfl⟩ := y
          have hg : z.cps.toList.getD i 0 = c0 := by
            have : z.cps.toList[i]? = some c0 := by rw [Array.getElem?_toList]; exact hc0
            simp [List.getD, this]
          refine ⟨Same.refl _, fun R k1 => ?_⟩
          refine ⟨rfl, _, rfl, _, _, rfl, rfl, _, rfl, ?_⟩
          rw [hg] at k1
          have ea : (("a" : Str).cps.toList) = [97] := by decide +kernel
          have ez : (("z" : Str).cps.toList) = [122] := by decide +kernel
          refine ite2 (fun c3 => ?_) (fun c3 => ?_)
          · refine ⟨_, _, rfl, rfl, ?_⟩
            have e1 : chOk c0 = !decide ([122] < [c0]) := by
              have c3 : (!decide ([c0] < [97])) = true := by rw [← ea]; exact c3
              rw [lt1] at c3 ⊢
              have : 97 ≤ c0 := by simpa using c3
              by_cases q : c0 ≤ 122
              · simp [chOk, this, q, Nat.not_lt.mpr q]
              · simp [chOk, this, q, Nat.not_le.mp q]
            have := k1 H2 (Same.refl _)
            rw [e1] at this
            simpa only [ez] using this
          · have e1 : chOk c0 = false := by
              have c3 : ¬ (!decide ([c0] < [97])) = true := by rw [← ea]; exact c3
              rw [lt1] at c3
              have : c0 < 97 := by simpa using c3
              simp [chOk, Nat.not_le.mpr this]
            have := k1 H2 (Same.refl _)
            rw [e1] at this
            exact this
        · refine ⟨D, (List.range z.cps.size).map (fun i => chOk (z.cps.toList.getD i 0)), rfl, SqL.of (by rw [e', List.map_map]; rfl), ?_⟩
          have e1 : (List.range z.cps.size).map (fun i => chOk (z.cps.toList.getD i 0)) = z.cps.toList.map chOk := by
            apply map_range_get (by simp)
            intro i hi
            simp at hi
            simp [hi]
          have e2 : nameOk z = ((List.range z.cps.size).map (fun i => chOk (z.cps.toList.getD i 0))).all id := by
            rw [e1]
            unfold nameOk
            rw [decide_eq_true (show 1 ≤ z.length ∧ z.length ≤ 8 from ⟨by omega, by omega⟩), Bool.true_and, List.all_map]
            rfl
          have := k H' s'
          rw [e2] at this
          exact this
      · have e : nameOk z = false := by
          unfold nameOk
          rw [decide_eq_false (fun q => c2 (decide_eq_true (by omega)))]
          rfl
        have := k H (Same.refl _)
        rw [e] at this
        exact this
    · have e : nameOk z = false := by
        unfold nameOk
        rw [decide_eq_false (fun q => c (decide_eq_true (by omega)))]
        rfl
      have := k H (Same.refl _)
      rw [e] at this
      exact ⟨_, rfl, iteF this⟩
/-! ### data in a heap -/
/-- v is a tuple that holds b -/
def BarAt (K : PySem.W.Frag) (H : Hp) (v : V) (b : Bar) : Prop := ∃ t d : Addr, v = .ref t ∧ SqT K H t [.str b.name, .int b.cap, .int b.roof, .ref d] ∧ SqT K H d (b.draws.map V.int)
def BarsAt (K : PySem.W.Frag) (H : Hp) (a : Addr) (bs : List Bar) : Prop := ∃ vs : List V, SqT K H a vs ∧ vs.length = bs.length ∧ ∀ (i : Nat) (v : V) (b : Bar), vs[i]? = some v → bs[i]? = some b → BarAt K H v b
theorem same_t {K : PySem.W.Frag} {H H' : Hp} {a : Addr} {xs : List V} (e : Same H H') (h : SqT K H a xs) : SqT K H' a xs := by
  rcases h with (h | ⟨o, h⟩) | h
  · exact .inl (.inl (e _ _ h))
  · exact .inl (.inr ⟨o, e _ _ h⟩)
  · exact .inr h
theorem BarAt.mono {K : PySem.W.Frag} {H H' : Hp} {v : V} {b : Bar} (e : Same H H') (h : BarAt K H v b) : BarAt K H' v b := by
  obtain ⟨t, d, e1, h1, h2⟩ := h
  exact ⟨t, d, e1, same_t e h1, same_t e h2⟩
theorem BarsAt.mono {K : PySem.W.Frag} {H H' : Hp} {a : Addr} {bs : List Bar} (e : Same H H') (h : BarsAt K H a bs) : BarsAt K H' a bs := by
  obtain ⟨vs, h1, h2, h3⟩ := h
  exact ⟨vs, same_t e h1, h2, fun i v b hv hb => (h3 i v b hv hb).mono e⟩
/-! ### a barrel's validity (it is valid) -/
def spIsBarrel (K : PySem.W.Frag) : Sp := fun vs H Q _ => ∃ (v : V) (n : Nat) (b : Bar), vs = [v, .int n] ∧ BarAt K H v b ∧ barOk n b ∧ n ≤ 1000 ∧ ∀ H', Same H H' → Q (.bl true) H'
theorem nameOk_len {z : Str} (h : nameOk z = true) : 1 ≤ z.length ∧ z.length ≤ 8 := by
  unfold nameOk at h
  exact of_decide_eq_true (Bool.and_eq_true_iff.mp h).1
theorem ok_is_barrel {f : Addr} {fd : FuncData} (F : Fun K "is_barrel" "is_barrel" s_is_barrel f fd) (T : Txt K mg CP CR) (c_is_number : Callee P w K mg base "is_number" 1 spIsNumber) (c_is_name : Callee P w K mg base "is_name" 1 spIsName) :
    FnOk P w K mg base CX0 2 f fd P_is_barrel (spIsBarrel K) := by
  refine F.ok sc_is_barrel (fun vs H Q E h => ?_) (fun cdv A outer s H vs Q E hr h => ?_)
  · obtain ⟨v, n, b, rfl, _⟩ := h
    rfl
  · obtain ⟨v, n, b, rfl, hb, ok, hn, k⟩ := h
    obtain ⟨t, d, rfl, h1, h2⟩ := hb
    obtain ⟨o1, o2, o3, o4, o5, o6, o7⟩ := ok
    refine ⟨_, (pss_cons (ps_asg (pv 0) (pg_tup rfl (pgs_cons (pg_name (i := 2) sc_is_barrel.nd rfl (.inl rfl)) (pgs_cons (pg_name (i := 3) sc_is_barrel.nd rfl (.inl rfl)) (pgs_cons (pg_name (i := 4) sc_is_barrel.nd rfl (.inl rfl)) (pgs_cons (pg_name (i := 5) sc_is_barrel.nd rfl (.inl rfl)) pgs_nil))))))
      (pss_cons (ps_if (PW.pt (pw_or (pt_not (pt_val (pe_callF c_is_name (hr.mono (by decide)) (by rfl) (pa_cons (pv 2) pa_nil)))) (pw_or1 (pt_cmpR op_ne (pe_callB call_len_seq (by rfl) T.n_len bt_len (pa_cons (pv 5) pa_nil)) (pv 1) (nomark _)))))
        (pss_one (ps_ret pe_bl))
        pss_nil)
      (pss_cons (ps_if (PW.pt (pw_or (pt_not (pt_val (pe_callF c_is_number (hr.mono (by decide)) (by rfl) (pa_cons (pv 3) (pa_cons pe_int (pa_cons (pe_globI (by rfl) T.g_MAX_CAPACITY) pa_nil)))))) (pw_or1 (pt_not (pt_val (pe_callF c_is_number (hr.mono (by decide)) (by rfl) (pa_cons (pv 4) (pa_cons pe_int (pa_cons (pe_globI (by rfl) T.g_MAX_ROOF) pa_nil)))))))))
        (pss_one (ps_ret pe_bl))
        pss_nil)
      (pss_one (ps_ret (pe_callB (cr_all rfl) (by rfl) T.n_all bt_all (pa_cons (pe_lc (own := [("wish", 6)]) (g := gName 6) (by rfl) sc_is_barrel.nd (pi_tup (pv 5)) (blkOk_by (own := [("wish", 6)]) (N := N_is_barrel) (sc := defScope s_is_barrel) (by decide +kernel)) (fun _ _ _ _ _ => (pg_name (i := 6) sc_is_barrel.nd rfl (.inl rfl))) (fun _ _ _ _ _ => pts_nil) (fun _ _ _ _ _ => (pe_callF c_is_number (hr.mono (by decide)) (by rfl) (pa_cons (pv 6) (pa_cons pe_int (pa_cons (pe_globI (by rfl) T.g_MAX_WISH) pa_nil)))))) pa_nil))))))), ?_⟩
    refine ⟨_, rfl, t, _, rfl, h1, rfl, _, _, rfl, _, _, rfl, _, _, rfl, _, _, rfl, rfl, ?_⟩
    refine ⟨_, rfl, b.name, rfl, Nat.le_trans (nameOk_len o1).2 (by decide), fun H1 s1 => ⟨_, rfl, ?_⟩⟩
    rw [o1]
    refine iteF ⟨_, rfl, d, _, rfl, .inr (same_t s1 h2), _, rfl, rfl, _, rfl, iteBF (by rw [List.length_map, o2]; simp) ?_⟩
    refine ⟨_, rfl, _, _, _, rfl, _, rfl, iteBF (by rw [decide_eq_true (⟨o3, o4⟩ : 0 ≤ b.cap ∧ b.cap ≤ 1000000000)]; rfl) ?_⟩
    refine ⟨_, rfl, _, _, _, rfl, _, rfl, iteBF (by rw [decide_eq_true (⟨o5, o6⟩ : 0 ≤ b.roof ∧ b.roof ≤ 100)]; rfl) ?_⟩
    refine ⟨_, rfl, d, rfl, ⟨_, same_t s1 h2⟩, fun D nD => lc_map walk_tup (by rw [List.length_map, o2]; exact Nat.le_trans hn (by decide)) (fun i => .bl true) nD (fun _ e => same_t e (same_t s1 h2)) (fun i x H2 H3 hi s2 y => ?_) (fun H' s' e' => ?_)⟩
    · obtain ⟨rfl, hx⟩ := y
      refine ⟨Same.refl _, fun R k1 => ⟨rfl, ?_⟩⟩
      obtain ⟨q, hq, rfl⟩ := get_int hx
      have hm := o7 q (List.mem_of_getElem? hq)
      refine ⟨_, rfl, _, _, _, rfl, ?_⟩
      rw [decide_eq_true (⟨hm.1, hm.2⟩ : 0 ≤ q ∧ q ≤ 1000000000)]
      exact k1 _ (Same.refl _)
    · refine ⟨D, (List.range (b.draws.map V.int).length).map (fun _ => true), rfl, SqL.of (by rw [e', List.map_map]; rfl), ?_⟩
      have e1 : ((List.range (b.draws.map V.int).length).map (fun _ => true)).all id = true := by simp
      rw [e1]
      exact k _ (s1.trans s')
/-! ### the rain, the barrels (they are valid) -/
def spCheckRain (K : PySem.W.Frag) : Sp := fun vs H Q _ => ∃ (a : Addr) (rs : List Int), vs = [.ref a] ∧ SqT K H a (rs.map V.int) ∧ 1 ≤ rs.length ∧ rs.length ≤ 12 ∧ (∀ r ∈ rs, 0 ≤ r ∧ r ≤ 1000000) ∧ ∀ H', Same H H' → Q .non H'
theorem ok_check_rain {f : Addr} {fd : FuncData} (F : Fun K "check_rain" "check_rain" s_check_rain f fd) (T : Txt K mg CP CR) (c_is_number : Callee P w K mg base "is_number" 1 spIsNumber) (hV : ∃ mc u, ClX.CRead K CR mc ∧ ClX.CVal K CR mc "MAX_TICKS" (.int 12) u) :
    FnOk P w K mg base CX0 2 f fd P_check_rain (spCheckRain K) := by
  refine F.ok sc_check_rain (fun vs H Q E h => ?_) (fun cdv A outer s H vs Q E hr h => ?_)
  · obtain ⟨a, rs, rfl, _⟩ := h
    rfl
  · obtain ⟨a, rs, rfl, h1, h2, h3, h4, k⟩ := h
    obtain ⟨mc, u, hC, hV⟩ := hV
    refine ⟨_, (pss_cons (ps_if (pt_cmpR op_eq (pe_callB call_len_seq (by rfl) T.n_len bt_len (pa_cons (pv 0) pa_nil)) pe_int (nomark _))
        (pss_one ps_never)
        pss_nil)
      (pss_one (ps_for PassesOwn.never rfl (pi_enumM false (by rfl) T.n_enumerate (pa_cons (pv 0) pa_nil)) (pg_tup rfl (pgs_cons (pg_name (i := 1) sc_check_rain.nd rfl (.inl rfl)) (pgs_cons (pg_name (i := 2) sc_check_rain.nd rfl (.inl rfl)) pgs_nil)))
        (pss_one (ps_if (PW.pt (pw_or (pt_cmpR op_eq (pv 1) (ClX.pe_cval (pe_glob (v := .ref CR) (by rfl) T.g_Row rfl)) (nomark _)) (pw_or1 (pt_not (pt_val (pe_callF c_is_number (hr.mono (by decide)) (by rfl) (pa_cons (pv 2) (pa_cons pe_int (pa_cons (pe_globI (by rfl) T.g_MAX_FALL) pa_nil)))))))))
        (pss_one ps_never)
        pss_nil))))), ?_⟩
    refine ⟨_, rfl, a, _, rfl, .inr h1, rfl, _, rfl, iteBF (by rw [List.length_map]; exact vi_ne (by omega)) ?_⟩
    refine ⟨_, rfl, a, _, rfl, h1, for_it walk_enumM (fun i σ H' => Same H H' ∧ ∃ x y, σ = [some (.ref a), x, y]) ⟨Same.refl _, _, _, rfl⟩ (fun i σ H' _ p => same_t p.1 h1) ?_ ?_⟩
    · rintro i x σ H1 H2 hi ⟨s1, x0, y0, rfl⟩ ⟨t, x1, y1, rfl, nt, rfl, e1, e2⟩
      obtain ⟨q, hq, rfl⟩ := get_int (show (rs.map V.int)[i]? = some y1 from e2)
      cases e1
      have hm := h4 q (List.mem_of_getElem? hq)
      have hi12 : i < 12 := by rw [List.length_map] at hi; omega
      refine ⟨t, _, rfl, .inl (.inl upd_same), rfl, _, _, rfl, _, _, rfl, rfl, _, rfl, _, mc, _, u, rfl, hC, hV, rfl, _, rfl, iteBF (vi_ne (by omega)) ?_⟩
      refine ⟨_, rfl, _, _, _, rfl, _, rfl, ?_⟩
      rw [decide_eq_true (⟨hm.1, hm.2⟩ : 0 ≤ q ∧ q ≤ 1000000)]
      exact iteF ⟨s1.trans (same_new nt), _, _, rfl⟩
    · rintro σ H1 ⟨s1, x0, y0, rfl⟩
      exact k _ s1
def spCheckBarrels (K : PySem.W.Frag) : Sp := fun vs H Q _ => ∃ (a : Addr) (n : Nat) (bs : List Bar), vs = [.ref a, .int n] ∧ BarsAt K H a bs ∧ n ≤ 1000 ∧ 1 ≤ bs.length ∧ bs.length ≤ 5 ∧ (∀ b ∈ bs, barOk n b) ∧ (bs.map Bar.name).Nodup ∧ ∀ H', Same H H' → Q .non H'
theorem ok_check_barrels {f : Addr} {fd : FuncData} (F : Fun K "check_barrels" "check_barrels" s_check_barrels f fd) (T : Txt K mg CP CR) (c_is_barrel : Callee P w K mg base "is_barrel" 2 (spIsBarrel K)) (hV : ∃ mc u, ClX.CRead K CR mc ∧ ClX.CVal K CR mc "MAX_BARRELS" (.int 5) u) :
    FnOk P w K mg base CX0 3 f fd P_check_barrels (spCheckBarrels K) := by
  refine F.ok sc_check_barrels (fun vs H Q E h => ?_) (fun cdv A outer s H vs Q E hr h => ?_)
  · obtain ⟨a, n, bs, rfl, _⟩ := h
    rfl
  · obtain ⟨a, n, bs, rfl, h1, h2, h3, h4, h5, h6, k⟩ := h
    obtain ⟨mc, u, hC, hV⟩ := hV
    obtain ⟨vs, hv1, hv2, hv3⟩ := id h1
    refine ⟨_, (pss_cons (ps_if (pt_cmpR op_eq (pe_callB call_len_seq (by rfl) T.n_len bt_len (pa_cons (pv 0) pa_nil)) pe_int (nomark _))
        (pss_one ps_never)
        pss_nil)
      (pss_cons (ps_setLc (i := 2) (own := [("barrel", 4)]) (g := gName 4) (by rfl) sc_check_barrels.nd rfl rfl (sw_true rfl rfl rfl (by decide +kernel)) (pi_tup (pv 0)) (blkOk_by (own := [("barrel", 4)]) (N := N_check_barrels) (sc := defScope s_check_barrels) (by decide +kernel)) (fun _ _ _ _ _ => (pg_name (i := 4) sc_check_barrels.nd rfl (.inl rfl))) (fun _ _ _ _ _ => pts_nil) (fun _ _ _ _ _ => (pe_ix (ixK (K := K) (r := rIxT) rfl ix_tup) (pv 4) pe_int (fun _ _ => rfl))))
      (pss_one (ps_for PassesOwn.never rfl (pi_enumM false (by rfl) T.n_enumerate (pa_cons (pv 0) pa_nil)) (pg_tup rfl (pgs_cons (pg_name (i := 3) sc_check_barrels.nd rfl (.inl rfl)) (pgs_cons (pg_name (i := 4) sc_check_barrels.nd rfl (.inl rfl)) pgs_nil)))
        (pss_cons (ps_set (i := 5) sc_check_barrels.nd rfl (.inl rfl) (pe_cmpR op_in_seq (pe_ix ix_list (pv 2) (pv 3) (fun _ _ => rfl)) (pe_slice sl_list (pv 2) po_none (po_some (pv 3))) (by with_unfolding_all rfl)))
      (pss_one (ps_if (PW.pt (pw_or (pt_val (pv 5)) (pw_or (pt_cmpR op_eq (pv 3) (ClX.pe_cval (pe_glob (v := .ref CR) (by rfl) T.g_Row rfl)) (nomark _)) (pw_or1 (pt_not (pt_val (pe_callF c_is_barrel (hr.mono (by decide)) (by rfl) (pa_cons (pv 4) (pa_cons (pv 1) pa_nil)))))))))
        (pss_one ps_never)
        pss_nil))))))), ?_⟩
    refine ⟨_, rfl, a, _, rfl, .inr hv1, rfl, _, rfl, iteBF (by rw [hv2]; exact vi_ne (by omega)) ?_⟩
    refine ⟨_, rfl, a, rfl, ⟨_, hv1⟩, fun D nD => lc_map walk_tup (by omega) (fun i => .str ((bs.map Bar.name).getD i default)) nD (fun _ e => same_t e hv1) (fun i x H2 H3 hi s2 y => ?_) (fun H' s' e' => ?_)⟩
    · obtain ⟨rfl, hx⟩ := y
      refine ⟨Same.refl _, fun R k1 => ⟨rfl, ?_⟩⟩
      have hb : bs[i]? = some bs[i] := List.getElem?_eq_getElem (by omega)
      obtain ⟨t, d, rfl, ht, hd⟩ := hv3 i x _ hx hb
      refine ⟨_, rfl, t, _, _, _, rfl, rfl, same_t s2 ht, rfl, ?_⟩
      have e : (bs.map Bar.name).getD i default = bs[i].name := by simp [List.getD, hb]
      rw [e] at k1
      exact k1 _ (Same.refl _)
    · have eN : (List.range vs.length).map (fun i => V.str ((bs.map Bar.name).getD i default)) = (bs.map Bar.name).map V.str := by
        rw [show (fun i => V.str ((bs.map Bar.name).getD i default)) = V.str ∘ (fun i => (bs.map Bar.name).getD i default) from rfl, ← List.map_map, map_range_getD (by rw [List.length_map, hv2])]
      rw [eN] at e'
      refine ⟨_, rfl, a, _, rfl, same_t s' hv1, for_it walk_enumM (fun i σ H'' => Same H' H'' ∧ ∃ x y z, σ = [some (.ref a), some (.int n), some (.ref D), x, y, z]) ⟨Same.refl _, _, _, _, rfl⟩ (fun i σ H'' _ p => same_t (s'.trans p.1) hv1) ?_ ?_⟩
      · rintro i x σ H1 H2 hi ⟨s1, x0, y0, z0, rfl⟩ ⟨t, x1, y1, rfl, nt, rfl, e1, e2⟩
        cases e1
        have e2 : vs[i]? = some y1 := e2
        have hb : bs[i]? = some bs[i] := List.getElem?_eq_getElem (by omega)
        have hn : (bs.map Bar.name)[i]? = some bs[i].name := by rw [List.getElem?_map, hb]; rfl
        have hba := hv3 i y1 _ e2 hb
        have s2 : Same H1 (upd H1 t (.tup [.int (i : Nat), y1])) := same_new nt
        have hD := s2 _ _ (s1 _ _ e')
        refine ⟨t, _, rfl, .inl (.inl upd_same), rfl, _, _, rfl, _, _, rfl, rfl, ?_⟩
        refine ⟨_, rfl, _, rfl, D, _, _, _, rfl, rfl, SqL.of hD, at_of (j := i) (v := .str bs[i].name) rfl (by rw [List.getElem?_map, hn]; rfl), _, rfl, _, rfl, _, rfl, D, _, rfl, SqL.of hD, fun p np => ?_⟩
        have hlen : i ≤ ((bs.map Bar.name).map V.str).length := by simp; omega
        rw [cutV_to hlen, ← List.map_take]
        refine ⟨p, _, rfl, .inl (SqL.of upd_same), rfl, flat_strs _, ?_⟩
        rw [if_neg Bool.false_ne_true, inV_str, decide_eq_false (nodup_take h6 hn)]
        have s3 := s2.trans (same_new (o := .lst (((bs.map Bar.name).take i).map V.str)) np)
        refine ⟨_, rfl, _, rfl, iteBF rfl ?_⟩
        refine ⟨_, rfl, _, mc, _, u, rfl, hC, hV, rfl, _, rfl, iteBF (vi_ne (by omega)) ?_⟩
        refine ⟨_, rfl, _, rfl, _, n, bs[i], rfl, hba.mono ((s'.trans s1).trans s3), h5 _ (List.getElem_mem _), h2, fun H5 s5 => ⟨_, rfl, iteBF rfl ⟨(s1.trans s3).trans s5, _, _, _, rfl⟩⟩⟩
      · rintro σ H1 ⟨s1, x0, y0, z0, rfl⟩
        exact k _ (s'.trans s1)
end
end Bk
set_option Elab.async false
set_option maxRecDepth 100000
set_option maxHeartbeats 1000000
namespace Bk
open PySem L2
/-- a passage's attributes -/
def pF (s c : Int) (la ld lm lo : Addr) : List (Str × V) := [("start", .int s), ("capacity", .int c), ("after", .ref la), ("drawn", .ref ld), ("missed", .ref lm), ("over", .ref lo)]
theorem pF_put (s c : Int) (la ld lm lo : Addr) : putF "over" (.ref lo) (putF "missed" (.ref lm) (putF "drawn" (.ref ld) (putF "after" (.ref la) (putF "capacity" (.int c) (putF "start" (.int s) []))))) = pF s c la ld lm lo := by rfl
def vi (l : List Int) : HO := .lst (l.map V.int)
/-- a passage p stands at v -/
def PasAt (CP : Addr) (H : Hp) (v : V) (p : Pas) : Prop := ∃ a dx la ld lm lo : Addr, v = .ref a ∧ H a = some (.ins CP dx (pF p.start p.cap la ld lm lo)) ∧ H la = some (vi p.after) ∧ H ld = some (vi p.drawn) ∧ H lm = some (vi p.missed) ∧ H lo = some (vi p.over)
/-- .. by its addresses -/
def PasAtX (CP : Addr) (H : Hp) (a la ld lm lo : Addr) (p : Pas) : Prop := ∃ dx, H a = some (.ins CP dx (pF p.start p.cap la ld lm lo)) ∧ H la = some (vi p.after) ∧ H ld = some (vi p.drawn) ∧ H lm = some (vi p.missed) ∧ H lo = some (vi p.over)
theorem PasAtX.at {CP : Addr} {H : Hp} {a la ld lm lo : Addr} {p : Pas} (h : PasAtX CP H a la ld lm lo p) : PasAt CP H (.ref a) p := by
  obtain ⟨dx, h0, h1, h2, h3, h4⟩ := h
  exact ⟨a, dx, la, ld, lm, lo, rfl, h0, h1, h2, h3, h4⟩
theorem PasAt.mono {CP : Addr} {H H' : Hp} {v : V} {p : Pas} (e : Same H H') (h : PasAt CP H v p) : PasAt CP H' v p := by
  obtain ⟨a, dx, la, ld, lm, lo, e1, h1, h2, h3, h4, h5⟩ := h
  exact ⟨a, dx, la, ld, lm, lo, e1, e _ _ h1, e _ _ h2, e _ _ h3, e _ _ h4, e _ _ h5⟩
theorem zip_get {fl ws : List Int} {i : Nat} {x y : Int} (h1 : fl[i]? = some x) (h2 : ws[i]? = some y) : (fl.zip ws).take (i + 1) = (fl.zip ws).take i ++ [(x, y)] := by
  have : (fl.zip ws)[i]? = some (x, y) := by rw [List.getElem?_zip_eq_some]; exact ⟨h1, h2⟩
  rw [List.take_add_one, this]
  rfl
local macro_rules | `(tactic| walk_at "hp") => `(tactic| first | assumption | exact upd_same | (rw [upd_ne (by first | assumption | (apply Ne.symm; assumption))]; walk_at "hp"))
section
variable {P : Program} {w : World} {K : PySem.W.Frag} {mg : Str → Option Value} {base : Heap} {CP CR : Addr}
/-! ### Passage.let_in -/
def spLetIn (K : PySem.W.Frag) (CP : Addr) : Sp := fun vs H Q _ => ∃ (a dx la ld lm lo ai ad : Addr) (s c : Int) (fl ws : List Int), vs = [.ref a, .ref ai, .ref ad] ∧ H a = some (.ins CP dx (pF s c la ld lm lo)) ∧
  H la = some (vi []) ∧ H ld = some (vi []) ∧ H lm = some (vi []) ∧ H lo = some (vi []) ∧ [la, ld, lm, lo].Nodup ∧ SqL K H ai (fl.map V.int) ∧ SqT K H ad (ws.map V.int) ∧ ai ∉ [la, ld, lm, lo] ∧ fl.length ≤ 100000 ∧
  ∀ H', (∀ b o, H b = some o → b ∉ [la, ld, lm, lo] → H' b = some o) → H' la = some (vi (mkPas s c fl ws).after) → H' ld = some (vi (mkPas s c fl ws).drawn) → H' lm = some (vi (mkPas s c fl ws).missed) → H' lo = some (vi (mkPas s c fl ws).over) → Q .non H'
theorem ok_let_in {f : Addr} {fd : FuncData} (F : Fun K "let_in" "Passage.let_in" s_Passage_let_in f fd) (T : Txt K mg CP CR) : FnOk P w K mg base CX0 1 f fd P_Passage_let_in (spLetIn K CP) := by
  refine F.ok sc_Passage_let_in (fun vs H Q E h => ?_) (fun cdv A outer s H vs Q E hr h => ?_)
  · obtain ⟨a, dx, la, ld, lm, lo, ai, ad, s, c, fl, ws, rfl, _⟩ := h
    rfl
  · obtain ⟨a, dx, la, ld, lm, lo, ai, ad, s0, c, fl, ws, rfl, h0, h1, h2, h3, h4, hnd, hf, hw, hai, hl, k⟩ := h
    refine ⟨_, (pss_cons (ps_set (i := 3) sc_Passage_let_in.nd rfl (.inl rfl) (pe_fld (pv 0) rfl))
      (pss_one (ps_for PassesOwn.never rfl (pi_zipM true false (by rfl) T.n_zip (pa_cons (pv 1) (pa_cons (pv 2) pa_nil))) (pg_tup rfl (pgs_cons (pg_name (i := 4) sc_Passage_let_in.nd rfl (.inl rfl)) (pgs_cons (pg_name (i := 5) sc_Passage_let_in.nd rfl (.inl rfl)) pgs_nil)))
        (pss_cons (ps_set (i := 6) sc_Passage_let_in.nd rfl (.inl rfl) (pe_callB (call_max2 rfl) (by rfl) T.n_max bt_max (pa_cons pe_int (pa_cons (pe_op op_sub (pe_op op_add (pv 3) (pv 4)) (pe_fld (pv 0) rfl)) pa_nil))))
      (pss_cons (ps_set (i := 7) sc_Passage_let_in.nd rfl (.inl rfl) (pe_op op_sub (pe_op op_add (pv 3) (pv 4)) (pv 6)))
      (pss_cons (ps_set (i := 8) sc_Passage_let_in.nd rfl (.inl rfl) (pe_callB (call_min2 rfl) (by rfl) T.n_min bt_min (pa_cons (pv 7) (pa_cons (pv 5) pa_nil))))
      (pss_cons (ps_set (i := 3) sc_Passage_let_in.nd rfl (.inl rfl) (pe_op op_sub (pv 7) (pv 8)))
      (pss_cons (ps_expr (pe_bm PySem.F.plainAttrs_list PySem.F.slot_list_append PySem.F.type_list_append mt_append (pe_fld (pv 0) rfl) (pa_cons (pv 3) pa_nil)))
      (pss_cons (ps_expr (pe_bm PySem.F.plainAttrs_list PySem.F.slot_list_append PySem.F.type_list_append mt_append (pe_fld (pv 0) rfl) (pa_cons (pv 8) pa_nil)))
      (pss_cons (ps_expr (pe_bm PySem.F.plainAttrs_list PySem.F.slot_list_append PySem.F.type_list_append mt_append (pe_fld (pv 0) rfl) (pa_cons (pe_op op_sub (pv 5) (pv 8)) pa_nil)))
      (pss_one (ps_expr (pe_bm PySem.F.plainAttrs_list PySem.F.slot_list_append PySem.F.type_list_append mt_append (pe_fld (pv 0) rfl) (pa_cons (pv 6) pa_nil)))))))))))))), ?_⟩
    have nn : la ≠ ld ∧ la ≠ lm ∧ la ≠ lo ∧ ld ≠ lm ∧ ld ≠ lo ∧ lm ≠ lo := by simpa [and_assoc] using hnd
    obtain ⟨n12, n13, n14, n23, n24, n34⟩ := nn
    have na1 : a ≠ la := ne_of h0 h1 (by intro q; cases q)
    have na2 : a ≠ ld := ne_of h0 h2 (by intro q; cases q)
    have na3 : a ≠ lm := ne_of h0 h3 (by intro q; cases q)
    have na4 : a ≠ lo := ne_of h0 h4 (by intro q; cases q)
    have naL : a ∉ [la, ld, lm, lo] := by simp [na1, na2, na3, na4]
    have hL : ∀ b ∈ [la, ld, lm, lo], ∃ ys, H b = some (.lst ys) := by
      intro b hb
      have : b = la ∨ b = ld ∨ b = lm ∨ b = lo := by simpa using hb
      rcases this with rfl | rfl | rfl | rfl
      · exact ⟨_, h1⟩
      · exact ⟨_, h2⟩
      · exact ⟨_, h3⟩
      · exact ⟨_, h4⟩
    refine ⟨_, rfl, a, CP, dx, _, _, rfl, h0, T.cl_Passage, T.na_Passage_start, rfl, ?_⟩
    refine ⟨_, rfl, _, rfl, ai, ad, _, _, rfl, hf, hw, for_it (walk_zipM rfl) (fun i σ H' => KeepL [la, ld, lm, lo] H H' ∧ H' la = some (vi ((rowsB c s0 ((fl.zip ws).take i)).map T4.lv)) ∧ H' ld = some (vi ((rowsB c s0 ((fl.zip ws).take i)).map T4.dr)) ∧
      H' lm = some (vi ((rowsB c s0 ((fl.zip ws).take i)).map T4.ms)) ∧ H' lo = some (vi ((rowsB c s0 ((fl.zip ws).take i)).map T4.ov)) ∧ ∃ x4 x5 x6 x7 x8, σ = [some (.ref a), some (.ref ai), some (.ref ad), some (.int (lvB c s0 ((fl.zip ws).take i))), x4, x5, x6, x7, x8])
      ⟨fun b o q _ => q, h1, h2, h3, h4, _, _, _, _, _, rfl⟩ (fun i σ H' _ p => ⟨p.1.seq hai hf, p.1.tup hL hw⟩) ?_ ?_⟩
    · rintro i x σ H1 H2 hi ⟨kp, g1, g2, g3, g4, x4, x5, x6, x7, x8, rfl⟩ ⟨t, y1, y2, rfl, nt, rfl, e1, e2⟩
      obtain ⟨q1, hq1, rfl⟩ := get_int (show (fl.map V.int)[i]? = some y1 from e1)
      obtain ⟨q2, hq2, rfl⟩ := get_int (show (ws.map V.int)[i]? = some y2 from e2)
      have ez := zip_get hq1 hq2
      have hlen : ((fl.zip ws).take i).length < sizeLine := by
        have q : sizeLine = 16777216 := by decide
        have hi' : i < fl.length := by
          have := (List.getElem?_eq_some_iff.mp hq1).1
          exact this
        have := List.length_take_le i (fl.zip ws)
        omega
      have hlr : (rowsB c s0 ((fl.zip ws).take i)).length < sizeLine := by rw [rowsB_length]; exact hlen
      have nt1 : la ≠ t := ne_of_none g1 nt
      have nt2 : ld ≠ t := ne_of_none g2 nt
      have nt3 : lm ≠ t := ne_of_none g3 nt
      have nt4 : lo ≠ t := ne_of_none g4 nt
      have ha1 := kp _ _ h0 naL
      have nta : a ≠ t := ne_of_none ha1 nt
      refine ⟨t, _, rfl, .inl (.inl upd_same), rfl, _, _, rfl, _, _, rfl, rfl, ?_⟩
      refine ⟨_, rfl, _, rfl, _, _, rfl, rfl, _, rfl, a, CP, dx, _, _, rfl, by walk_at "hp", T.cl_Passage, T.na_Passage_capacity, rfl, _, _, rfl, rfl, _, _, rfl, ?_⟩
      refine ⟨_, rfl, _, rfl, _, _, rfl, rfl, _, rfl, _, _, rfl, rfl, ?_⟩
      refine ⟨_, rfl, _, rfl, _, _, rfl, ?_⟩
      refine ⟨_, rfl, _, rfl, _, _, rfl, rfl, ?_⟩
      refine ⟨_, rfl, a, CP, dx, _, .ref la, rfl, by walk_at "hp", T.cl_Passage, T.na_Passage_after, rfl, .inl ⟨rfl, _, SqL.of (by walk_at "hp")⟩, _, rfl, la, _, _, rfl, rfl, by walk_at "hp", by simpa using hlr, ?_⟩
      refine ⟨_, rfl, a, CP, dx, _, .ref ld, rfl, by walk_at "hp", T.cl_Passage, T.na_Passage_drawn, rfl, .inl ⟨rfl, _, SqL.of (by walk_at "hp")⟩, _, rfl, ld, _, _, rfl, rfl, by walk_at "hp", by simpa using hlr, ?_⟩
      refine ⟨_, rfl, a, CP, dx, _, .ref lm, rfl, by walk_at "hp", T.cl_Passage, T.na_Passage_missed, rfl, .inl ⟨rfl, _, SqL.of (by walk_at "hp")⟩, _, rfl, _, rfl, _, _, rfl, rfl, lm, _, _, rfl, rfl, by walk_at "hp", by simpa using hlr, ?_⟩
      refine ⟨_, rfl, a, CP, dx, _, .ref lo, rfl, by walk_at "hp", T.cl_Passage, T.na_Passage_over, rfl, .inl ⟨rfl, _, SqL.of (by walk_at "hp")⟩, _, rfl, lo, _, _, rfl, rfl, by walk_at "hp", by simpa using hlr, ?_⟩
      rw [ez, rowsB_snoc, lvB_snoc]
      refine ⟨?_, ?_, ?_, ?_, ?_, _, _, _, _, _, rfl⟩
      · intro b o q n
        have nb : b ≠ la ∧ b ≠ ld ∧ b ≠ lm ∧ b ≠ lo := by simpa using n
        obtain ⟨m1, m2, m3, m4⟩ := nb
        rw [upd_ne m4, upd_ne m3, upd_ne m2, upd_ne m1]
        exact same_new nt _ _ (kp b o q n)
      · rw [upd_ne n14, upd_ne n13, upd_ne n12, upd_same]
        unfold vi
        rw [List.map_append, List.map_append]
        rfl
      · rw [upd_ne n24, upd_ne n23, upd_same]
        unfold vi
        rw [List.map_append, List.map_append]
        rfl
      · rw [upd_ne n34, upd_same]
        unfold vi
        rw [List.map_append, List.map_append]
        rfl
      · rw [upd_same]
        unfold vi
        rw [List.map_append, List.map_append]
        rfl
    · rintro σ H1 ⟨kp, g1, g2, g3, g4, x4, x5, x6, x7, x8, rfl⟩
      have e : (fl.zip ws).take (min (fl.map V.int).length (ws.map V.int).length) = fl.zip ws := List.take_of_length_le (by simp)
      rw [e] at g1 g2 g3 g4
      exact k H1 kp g1 g2 g3 g4
/-! ### Passage.__init__ -/
def Kp (a : Addr) (H H' : Hp) : Prop := ∀ b o, H b = some o → b ≠ a → H' b = some o
theorem Kp.upd {a : Addr} {H H1 : Hp} {o : HO} (e : Kp a H H1) : Kp a H (upd H1 a o) := fun b u q n => by rw [upd_ne n]; exact e b u q n
theorem Kp.new {a p : Addr} {H H1 : Hp} {o : HO} (e : Kp a H H1) (n : H1 p = none) : Kp a H (L2.upd H1 p o) := fun b u q m => by rw [upd_ne (ne_of_none (e b u q m) n)]; exact e b u q m
theorem Kp.tup {K : PySem.W.Frag} {a C dx : Addr} {fs : List (Str × V)} {H H' : Hp} {t : Addr} {xs : List V} (e : Kp a H H') (ha : H a = some (.ins C dx fs)) (h : SqT K H t xs) : SqT K H' t xs := by
  rcases h with (h | ⟨o, h⟩) | h
  · exact .inl (.inl (e _ _ h (ne_of h ha (by intro q; cases q))))
  · exact .inl (.inr ⟨o, e _ _ h (ne_of h ha (by intro q; cases q))⟩)
  · exact .inr h
def spPasInit (K : PySem.W.Frag) (CP : Addr) : Sp := fun vs H Q _ => ∃ (a dx ai : Addr) (s : Int) (v : V) (b : Bar) (fl : List Int), vs = [.ref a, .int s, v, .ref ai] ∧ H a = some (.ins CP dx []) ∧ BarAt K H v b ∧ H ai = some (vi fl) ∧ fl.length ≤ 100000 ∧
  ∀ (H' : Hp) (la ld lm lo : Addr), Kp a H H' → H la = none → H ld = none → H lm = none → H lo = none → PasAtX CP H' a la ld lm lo (mkPas s b.cap fl b.draws) → Q .non H'
theorem ok_pas_init {f : Addr} {fd : FuncData} (F : Fun K "__init__" "Passage.__init__" s_Passage_init f fd) (T : Txt K mg CP CR) (c_Passage_let_in : CalleeM P w K mg base CP "let_in" 1 (spLetIn K CP)) : FnOk P w K mg base CX0 2 f fd P_Passage_init (spPasInit K CP) := by
  refine F.ok sc_Passage_init (fun vs H Q E h => ?_) (fun cdv A outer s H vs Q E hr h => ?_)
  · obtain ⟨a, dx, ai, s, v, b, fl, rfl, _⟩ := h
    rfl
  · obtain ⟨a, dx, ai, s0, v, b, fl, rfl, h0, ⟨t, d, rfl, ht, hd⟩, hf, hl, k⟩ := h
    refine ⟨_, (pss_cons (ps_fld (pv 0) (pv 1) rfl)
      (pss_cons (ps_fld (pv 0) (pe_ix ix_tup (pv 2) pe_int (fun _ _ => rfl)) rfl)
      (pss_cons (ps_fld (pv 0) (pe_lst pa_nil) rfl)
      (pss_cons (ps_fld (pv 0) (pe_lst pa_nil) rfl)
      (pss_cons (ps_fld (pv 0) (pe_lst pa_nil) rfl)
      (pss_cons (ps_fld (pv 0) (pe_lst pa_nil) rfl)
      (pss_one (ps_expr (pe_methF c_Passage_let_in (hr.mono (by decide)) (pv 0) (pa_cons (pv 3) (pa_cons (pe_ix ix_tup (pv 2) pe_int (fun _ _ => rfl)) pa_nil))))))))))), ?_⟩
    have k1 : Kp a H (upd H a (.ins CP dx (putF "start" (.int s0) []))) := Kp.upd fun b o q _ => q
    refine ⟨_, rfl, _, rfl, a, CP, dx, _, rfl, h0, T.cl_Passage, T.na_Passage_start, by show 0 < 1000; decide, ?_⟩
    refine ⟨_, rfl, t, _, _, _, rfl, rfl, k1.tup h0 ht, rfl, _, rfl, a, CP, dx, _, rfl, upd_same, T.cl_Passage, T.na_Passage_capacity, by show 1 < 1000; decide, ?_⟩
    have k2 := k1.upd (o := .ins CP dx (putF "capacity" (.int b.cap) (putF "start" (.int s0) [])))
    refine ⟨by decide, fun la n1 => ?_⟩
    have k3 := k2.new (o := .lst []) n1
    have al : a ≠ la := ne_of_none upd_same n1
    refine ⟨_, rfl, a, CP, dx, _, rfl, by walk_at "hp", T.cl_Passage, T.na_Passage_after, by show 2 < 1000; decide, ?_⟩
    have k4 := k3.upd (o := .ins CP dx (putF "after" (.ref la) (putF "capacity" (.int b.cap) (putF "start" (.int s0) []))))
    refine ⟨by decide, fun ld n2 => ?_⟩
    have k5 := k4.new (o := .lst []) n2
    have ad : a ≠ ld := ne_of_none upd_same n2
    have n12 : la ≠ ld := ne_of_none (o := .lst []) (by walk_at "hp") n2
    refine ⟨_, rfl, a, CP, dx, _, rfl, by walk_at "hp", T.cl_Passage, T.na_Passage_drawn, by show 3 < 1000; decide, ?_⟩
    have k6 := k5.upd (o := .ins CP dx (putF "drawn" (.ref ld) (putF "after" (.ref la) (putF "capacity" (.int b.cap) (putF "start" (.int s0) [])))))
    refine ⟨by decide, fun lm n3 => ?_⟩
    have k7 := k6.new (o := .lst []) n3
    have am : a ≠ lm := ne_of_none upd_same n3
    have n13 : la ≠ lm := ne_of_none (o := .lst []) (by walk_at "hp") n3
    have n23 : ld ≠ lm := ne_of_none (o := .lst []) (by walk_at "hp") n3
    refine ⟨_, rfl, a, CP, dx, _, rfl, by walk_at "hp", T.cl_Passage, T.na_Passage_missed, by show 4 < 1000; decide, ?_⟩
    have k8 := k7.upd (o := .ins CP dx (putF "missed" (.ref lm) (putF "drawn" (.ref ld) (putF "after" (.ref la) (putF "capacity" (.int b.cap) (putF "start" (.int s0) []))))))
    refine ⟨by decide, fun lo n4 => ?_⟩
    have k9 := k8.new (o := .lst []) n4
    have ao : a ≠ lo := ne_of_none upd_same n4
    have n14 : la ≠ lo := ne_of_none (o := .lst []) (by walk_at "hp") n4
    have n24 : ld ≠ lo := ne_of_none (o := .lst []) (by walk_at "hp") n4
    have n34 : lm ≠ lo := ne_of_none (o := .lst []) (by walk_at "hp") n4
    refine ⟨_, rfl, a, CP, dx, _, rfl, by walk_at "hp", T.cl_Passage, T.na_Passage_over, by show 5 < 1000; decide, ?_⟩
    have k10 := k9.upd (o := .ins CP dx (putF "over" (.ref lo) (putF "missed" (.ref lm) (putF "drawn" (.ref ld) (putF "after" (.ref la) (putF "capacity" (.int b.cap) (putF "start" (.int s0) [])))))))
    have nf : ai ≠ a := ne_of hf h0 (by intro q; cases q)
    have hnone : ∀ p, (p = la ∨ p = ld ∨ p = lm ∨ p = lo) → p ≠ a → H p = none := by
      intro p hp na
      cases e : H p with
      | none => rfl
      | some o =>
        exfalso
        rcases hp with rfl | rfl | rfl | rfl
        · exact ne_of_none (k2 _ _ e na) n1 rfl
        · exact ne_of_none (k4 _ _ e na) n2 rfl
        · exact ne_of_none (k6 _ _ e na) n3 rfl
        · exact ne_of_none (k8 _ _ e na) n4 rfl
    have hne : ∀ p o, H p = some o → p ≠ a → p ∉ [la, ld, lm, lo] := by
      intro p o e na m
      have m : p = la ∨ p = ld ∨ p = lm ∨ p = lo := by simpa using m
      rw [hnone p m na] at e
      cases e
    refine ⟨_, rfl, a, dx, _, rfl, upd_same, rfl, _, rfl, _, rfl, t, _, _, .ref d, rfl, rfl, k10.tup h0 ht, rfl, ?_⟩
    refine ⟨a, dx, la, ld, lm, lo, ai, d, s0, b.cap, fl, b.draws, rfl, upd_same, by unfold vi; walk_at "hp", by unfold vi; walk_at "hp", by unfold vi; walk_at "hp", by unfold vi; walk_at "hp",
      by simp [n12, n13, n14, n23, n24, n34], SqL.of (k10 _ _ hf nf), k10.tup h0 hd, hne _ _ hf nf, hl, fun H' kp g1 g2 g3 g4 => ?_⟩
    refine k H' la ld lm lo (fun p o e n => kp _ _ (k10 _ _ e n) (hne _ _ e n)) (hnone _ (.inl rfl) al.symm) (hnone _ (.inr (.inl rfl)) ad.symm) (hnone _ (.inr (.inr (.inl rfl))) am.symm) (hnone _ (.inr (.inr (.inr rfl))) ao.symm) ⟨dx, kp _ _ upd_same (by simp [al, ad, am, ao]), g1, g2, g3, g4⟩
/-! ### gain, rounds_alike -/
def spGain (CP : Addr) : Sp := fun vs H Q _ => ∃ (v : V) (p : Pas), vs = [v] ∧ PasAt CP H v p ∧ p.rows ≠ [] ∧ Q (.int p.gain) H
theorem after_last {p : Pas} (h : p.rows ≠ []) : atI (p.after.map V.int) (-1) = some (.int p.last) := by
  have hl : 0 < p.after.length := by
    unfold Pas.after
    rw [List.length_map]
    exact List.length_pos_iff.mpr h
  have e : p.after[p.after.length - 1]? = some p.last := by
    unfold Pas.last
    rw [← List.getLast?_eq_getElem?, List.getLastD_eq_getLast?]
    cases q : p.after.getLast? with
    | none => rw [List.getLast?_eq_none_iff] at q; rw [q] at hl; cases hl
    | some z => rfl
  have e2 : (p.after.map V.int)[p.after.length - 1]? = some (.int p.last) := by rw [List.getElem?_map, e]; rfl
  have ei : ixN (p.after.map V.int).length (-1) = some (p.after.length - 1) := by
    rw [List.length_map]
    unfold ixN
    rw [if_neg (by omega), if_pos (by omega)]
    congr 1
    omega
  unfold atI
  rw [ei]
  exact e2
theorem ok_gain {f : Addr} {fd : FuncData} (F : Fun K "gain" "Passage.gain" s_Passage_gain f fd) (T : Txt K mg CP CR) : FnOk P w K mg base CX0 1 f fd P_Passage_gain (spGain CP) := by
  refine F.ok sc_Passage_gain (fun vs H Q E h => ?_) (fun cdv A outer s H vs Q E hr h => ?_)
  · obtain ⟨v, p, rfl, _⟩ := h
    rfl
  · obtain ⟨v, p, rfl, ⟨a, dx, la, ld, lm, lo, rfl, h0, h1, h2, h3, h4⟩, hne, k⟩ := h
    refine ⟨_, (pss_one (ps_ret (pe_op op_sub (pe_ix ix_list (pe_fld (pv 0) rfl) (pe_un un_neg pe_int) (fun _ _ => rfl)) (pe_fld (pv 0) rfl)))), ?_⟩
    refine ⟨_, rfl, a, CP, dx, _, _, rfl, h0, T.cl_Passage, T.na_Passage_after, rfl, _, rfl, la, _, _, _, rfl, rfl, SqL.of h1, after_last hne, _, rfl, a, CP, dx, _, _, rfl, h0, T.cl_Passage, T.na_Passage_start, rfl, _, _, rfl, rfl, k⟩
def spAlike (CP : Addr) : Sp := fun vs H Q _ => ∃ (v : V) (p : Pas), vs = [v] ∧ PasAt CP H v p ∧ p.rows ≠ [] ∧ p.rows.length ≤ 100000 ∧ p.gain.natAbs < 1073741824 ∧ ∀ H', Same H H' → Q (.int p.alike) H'
theorem ok_alike {f : Addr} {fd : FuncData} (F : Fun K "rounds_alike" "Passage.rounds_alike" s_Passage_rounds_alike f fd) (T : Txt K mg CP CR) (c_Passage_gain : CalleeM P w K mg base CP "gain" 1 (spGain CP)) : FnOk P w K mg base CX0 2 f fd P_Passage_rounds_alike (spAlike CP) := by
  refine F.ok sc_Passage_rounds_alike (fun vs H Q E h => ?_) (fun cdv A outer s H vs Q E hr h => ?_)
  · obtain ⟨v, p, rfl, _⟩ := h
    rfl
  · obtain ⟨v, p, rfl, hp, hne, hlen, hg, k⟩ := h
    obtain ⟨a, dx, la, ld, lm, lo, rfl, h0, h1, h2, h3, h4⟩ := id hp
    refine ⟨_, (pss_cons (ps_set (i := 1) sc_Passage_rounds_alike.nd rfl (.inl rfl) (pe_methF0 c_Passage_gain (hr.mono (by decide)) (pv 0)))
      (pss_cons (ps_if (pt_cmpR op_eq (pv 1) pe_int (nomark _))
        (pss_one (ps_ret (pe_globI (by rfl) T.g_FOREVER)))
        pss_nil)
      (pss_cons (ps_if (pt_cmpR op_gt (pe_callB (cr_sum rfl) (by rfl) T.n_sum bt_sum (pa_cons (pe_fld (pv 0) rfl) pa_nil)) pe_int (nomark _))
        (pss_one (ps_ret pe_int))
        pss_nil)
      (pss_cons (ps_set (i := 2) sc_Passage_rounds_alike.nd rfl (.inl rfl) (pe_callB (cr_max rfl) (by rfl) T.n_max bt_max (pa_cons (pe_lc (own := [("level", 3), ("drawn", 4)]) (g := gTup K 2 (gCons (gName 3) (gCons (gName 4) gNil))) (by rfl) sc_Passage_rounds_alike.nd (pi_zipM true true (by rfl) T.n_zip (pa_cons (pe_fld (pv 0) rfl) (pa_cons (pe_fld (pv 0) rfl) pa_nil))) (blkOk_by (own := [("level", 3), ("drawn", 4)]) (N := N_Passage_rounds_alike) (sc := defScope s_Passage_rounds_alike) (by decide +kernel)) (fun _ _ _ _ _ => (pg_tup rfl (pgs_cons (pg_name (i := 3) sc_Passage_rounds_alike.nd rfl (.inl rfl)) (pgs_cons (pg_name (i := 4) sc_Passage_rounds_alike.nd rfl (.inl rfl)) pgs_nil)))) (fun _ _ _ _ _ => pts_nil) (fun _ _ _ _ _ => (pe_op op_add (pv 3) (pv 4)))) pa_nil)))
      (pss_one (ps_ret (pe_op op_add pe_int (pe_op op_fdivN (pe_op op_sub (pe_fld (pv 0) rfl) (pv 2)) (pv 1))))))))), ?_⟩
    refine ⟨_, rfl, a, dx, _, rfl, h0, rfl, _, p, rfl, hp, hne, ?_⟩
    refine ⟨_, rfl, rfl, _, rfl, ite2 (fun c => ?_) (fun c => ?_)⟩
    · have c : p.gain = 0 := V.int.inj (of_decide_eq_true c)
      have e : p.alike = forever := by unfold Pas.alike; rw [if_pos c]
      rw [e] at k
      exact k H (Same.refl H)
    · have c : p.gain ≠ 0 := fun e => c (decide_eq_true (by rw [e]))
      refine ⟨_, rfl, a, CP, dx, _, _, rfl, h0, T.cl_Passage, T.na_Passage_missed, rfl, lm, p.missed, rfl, SqL.of h3, _, _, rfl, rfl, _, rfl, ite2 (fun c2 => ?_) (fun c2 => ?_)⟩
      · have c2 := of_decide_eq_true c2
        have e : p.alike = 1 := by unfold Pas.alike; rw [if_neg c, if_pos c2]
        rw [e] at k
        exact k H (Same.refl H)
      · have c2 : ¬ 0 < p.missed.sum := fun q => c2 (decide_eq_true q)
        refine ⟨_, rfl, a, CP, dx, _, .ref la, rfl, h0, T.cl_Passage, T.na_Passage_after, rfl, _, rfl, a, CP, dx, _, .ref ld, rfl, h0, T.cl_Passage, T.na_Passage_drawn, rfl, la, ld, _, _, rfl, SqL.of h1, SqL.of h2, fun D nD => lc_map (walk_zipM rfl) (by simp [Pas.after, Pas.drawn]; omega) (fun i => .int ((p.rows.map fun t => t.lv + t.dr).getD i 0)) nD (fun H' e => ⟨SqL.of (e _ _ h1), SqL.of (e _ _ h2)⟩) (fun i x H1 H2 hi s1 y => ?_) (fun H' s' e' => ?_)⟩
        · obtain ⟨t, y1, y2, rfl, nt, rfl, e1, e2⟩ := y
          refine ⟨same_new nt, fun R k1 => ?_⟩
          obtain ⟨q1, hq1, rfl⟩ := get_int (show (p.after.map V.int)[i]? = some y1 from e1)
          obtain ⟨q2, hq2, rfl⟩ := get_int (show (p.drawn.map V.int)[i]? = some y2 from e2)
          refine ⟨t, _, rfl, .inl (.inl upd_same), rfl, _, _, rfl, _, _, rfl, rfl, rfl, _, rfl, _, rfl, _, _, rfl, rfl, ?_⟩
          have e : (p.rows.map fun t => t.lv + t.dr).getD i 0 = q1 + q2 := by
            unfold Pas.after at hq1
            unfold Pas.drawn at hq2
            rw [List.getElem?_map] at hq1 hq2
            cases er : p.rows[i]? with
            | none => rw [er] at hq1; cases hq1
            | some r =>
              rw [er] at hq1 hq2
              have z1 : r.lv = q1 := Option.some.inj hq1
              have z2 : r.dr = q2 := Option.some.inj hq2
              simp [List.getD, er, z1, z2]
          rw [e] at k1
          exact k1 _ (Same.refl _)
        · have eN : (List.range (min (p.after.map V.int).length (p.drawn.map V.int).length)).map (fun i => V.int ((p.rows.map fun t => t.lv + t.dr).getD i 0)) = (p.rows.map fun t => t.lv + t.dr).map V.int := by
            rw [show (fun i => V.int ((p.rows.map fun t => t.lv + t.dr).getD i 0)) = V.int ∘ (fun i => (p.rows.map fun t => t.lv + t.dr).getD i 0) from rfl, ← List.map_map, map_range_getD (by simp [Pas.after, Pas.drawn])]
          rw [eN] at e'
          refine ⟨D, _, rfl, SqL.of e', by rw [List.length_map]; exact List.length_pos_iff.mpr hne, fun m hm hub => ?_⟩
          have em := maxOf_eq hm hub
          have e : p.alike = 1 + (p.cap - m).fdiv p.gain := by
            unfold Pas.alike Pas.highest
            rw [if_neg c, if_neg (show ¬ p.missed.sum > 0 from c2), ← em]
          rw [e] at k
          refine ⟨_, rfl, a, CP, dx, _, _, rfl, s' _ _ h0, T.cl_Passage, T.na_Passage_capacity, rfl, _, rfl, _, _, rfl, rfl, _, rfl, _, _, rfl, rfl, ⟨c, hg⟩, _, _, rfl, rfl, k H' s'⟩
end
end Bk
set_option Elab.async false
set_option maxRecDepth 100000
set_option maxHeartbeats 1000000
namespace Bk
open PySem L2
local macro_rules | `(tactic| walk_at "hp") => `(tactic| first | assumption | exact upd_same | (rw [upd_ne (by first | assumption | (apply Ne.symm; assumption))]; walk_at "hp"))
def PassesAt (CP : Addr) (H : Hp) (a : Addr) (ps : List Pas) : Prop := ∃ vs : List V, H a = some (.lst vs) ∧ vs.length = ps.length ∧ ∀ (i : Nat) (v : V) (p : Pas), vs[i]? = some v → ps[i]? = some p → PasAt CP H v p
theorem PassesAt.mono {CP : Addr} {H H' : Hp} {a : Addr} {ps : List Pas} (e : Same H H') (h : PassesAt CP H a ps) : PassesAt CP H' a ps := by
  obtain ⟨vs, h1, h2, h3⟩ := h
  exact ⟨vs, e _ _ h1, h2, fun i v p hv hp => (h3 i v p hv hp).mono e⟩
/-- the list at a of passages, told of a heap without some addresses -/
def PassesRm (CP : Addr) (S : Addr → Prop) (H : Hp) (a : Addr) (ps : List Pas) : Prop := ∃ vs : List V, H a = some (.lst vs) ∧ vs.length = ps.length ∧ ∀ (i : Nat) (v : V) (p : Pas), vs[i]? = some v → ps[i]? = some p → PasAt CP (rmS S H) v p
theorem PassesRm.mono {CP : Addr} {S : Addr → Prop} {H H' : Hp} {a : Addr} {ps : List Pas} (e : Same H H') (h : PassesRm CP S H a ps) : PassesRm CP S H' a ps := by
  obtain ⟨vs, h1, h2, h3⟩ := h
  exact ⟨vs, e _ _ h1, h2, fun i v p hv hp => (h3 i v p hv hp).mono (rmS_mono e)⟩
section
variable {P : Program} {w : World} {K : PySem.W.Frag} {mg : Str → Option Value} {base : Heap} {CP CR : Addr}
def spPassTicks (K : PySem.W.Frag) (CP : Addr) : Sp := fun vs H Q _ => ∃ (ra ba la : Addr) (rain : List Int) (bs : List Bar) (lv : List Int), vs = [.ref ra, .ref ba, .ref la] ∧ SqT K H ra (rain.map V.int) ∧ BarsAt K H ba bs ∧ H la = some (vi lv) ∧ rain.length ≤ 1000 ∧ bs.length ≤ 1000 ∧ (∀ r ∈ rain, 0 ≤ r ∧ r ≤ 1000000) ∧
  ∀ (p : Addr) (H' : Hp), Same H H' → H p = none → PassesAt CP (rmS (Old H) H') p (passTicks rain bs lv) → Q (.ref p) H'
theorem ok_pass_ticks {f : Addr} {fd : FuncData} (F : Fun K "pass_ticks" "pass_ticks" s_pass_ticks f fd) (T : Txt K mg CP CR) (c_Passage__init : Maker P w K mg base "Passage" CP 2 (spPasInit K CP)) : FnOk P w K mg base CX0 4 f fd P_pass_ticks (spPassTicks K CP) := by
  refine F.ok sc_pass_ticks (fun vs H Q E h => ?_) (fun cdv A outer s H vs Q E hr h => ?_)
  · obtain ⟨ra, ba, la, rain, bs, lv, rfl, _⟩ := h
    rfl
  · obtain ⟨ra, ba, la, rain, bs, lv, rfl, hra, hba, hla, hn, hb, hrain, k⟩ := h
    obtain ⟨vs, hv1, hv2, hv3⟩ := id hba
    refine ⟨_, (pss_cons (ps_set (i := 3) sc_pass_ticks.nd rfl (.inl rfl) (pe_lst pa_nil))
      (pss_cons (ps_set (i := 4) sc_pass_ticks.nd rfl (.inl rfl) (pe_op op_rep (pe_lst (pa_cons pe_int pa_nil)) (pe_callB call_len_seq (by rfl) T.n_len bt_len (pa_cons (pv 0) pa_nil))))
      (pss_cons (ps_for PassesOwn.never rfl (pi_zipM false true (by rfl) T.n_zip (pa_cons (pv 1) (pa_cons (pv 2) pa_nil))) (pg_tup rfl (pgs_cons (pg_name (i := 5) sc_pass_ticks.nd rfl (.inr rfl)) (pgs_cons (pg_name (i := 6) sc_pass_ticks.nd rfl (.inl rfl)) pgs_nil)))
        (pss_cons (ps_setLc (i := 7) (own := [("fall", 9), ("more", 10)]) (g := gTup K 2 (gCons (gName 9) (gCons (gName 10) gNil))) (by rfl) sc_pass_ticks.nd rfl rfl (sw_true rfl rfl rfl (by decide +kernel)) (pi_zipM false true (by rfl) T.n_zip (pa_cons (pv 0) (pa_cons (pv 4) pa_nil))) (blkOk_by (own := [("fall", 9), ("more", 10)]) (N := N_pass_ticks) (sc := defScope s_pass_ticks) (by decide +kernel)) (fun _ _ _ _ _ => (pg_tup rfl (pgs_cons (pg_name (i := 9) sc_pass_ticks.nd rfl (.inl rfl)) (pgs_cons (pg_name (i := 10) sc_pass_ticks.nd rfl (.inl rfl)) pgs_nil)))) (fun _ _ _ _ _ => pts_nil) (fun _ _ _ _ _ => (pe_op op_add (pe_op op_mul (pv 9) (pe_ix (ixK (K := K) (r := rIxT) rfl ix_tup) (pv 5) pe_int (fun _ _ => rfl))) (pv 10))))
      (pss_cons (ps_set (i := 8) sc_pass_ticks.nd rfl (.inl rfl) (pe_makeF c_Passage__init (hr.mono (by decide)) (by rfl) (pa_cons (pv 6) (pa_cons (pv 5) (pa_cons (pv 7) pa_nil)))))
      (pss_cons (ps_set (i := 4) sc_pass_ticks.nd rfl (.inl rfl) (pe_fld (pv 8) rfl))
      (pss_one (ps_expr (pe_bm PySem.F.plainAttrs_list PySem.F.slot_list_append PySem.F.type_list_append mt_append (pv 3) (pa_cons (pv 8) pa_nil))))))))
      (pss_one (ps_ret (pv 3)))))), ?_⟩
    -- passages = []; over = [0] * len(rain)
    refine ⟨by decide, fun pl n1 => ?_⟩
    have s1 := same_new (o := .lst []) n1
    refine ⟨by decide, fun z0 n2 => ?_⟩
    have s2 := s1.trans (same_new (o := .lst [.int 0]) n2)
    refine ⟨_, rfl, ra, _, rfl, .inr (same_t s2 hra), z0, _, [.int 0], rfl, rfl, upd_same, by omega, by rw [List.length_map]; omega, by rw [List.length_map]; show 1 * (rain.length : Int).toNat ≤ 16777216; omega, fun ol n3 => ?_⟩
    have s3 := s2.trans (same_new (o := .lst (List.replicate ((List.map V.int rain).length : Int).toNat [V.int 0]).flatten) n3)
    have eo : (List.replicate ((List.map V.int rain).length : Int).toNat [V.int 0]).flatten = (List.replicate rain.length (0 : Int)).map V.int := by
      rw [List.length_map, Int.toNat_natCast]
      induction rain.length with
      | zero => rfl
      | succ n ih => rw [List.replicate_succ, List.flatten_cons, ih, List.replicate_succ, List.map_cons]; rfl
    rw [eo] at s3 ⊢
    have npl : pl ≠ z0 := ne_of_none upd_same n2
    have npo : pl ≠ ol := ne_of_none (o := .lst []) (by walk_at "hp") n3
    have hpl : (upd (upd (upd H pl (.lst [])) z0 (.lst [.int 0])) ol (.lst ((List.replicate rain.length (0 : Int)).map V.int))) pl = some (.lst []) := by walk_at "hp"
    refine ⟨_, rfl, _, rfl, ba, la, _, _, rfl, same_t s3 hv1, SqL.of (s3 _ _ hla), for_it (walk_zipM rfl) (fun i σ H' => Same H H' ∧ PassesRm CP (fun b => b = pl ∨ Old H b) H' pl ((passTicks rain bs lv).take i) ∧ (∃ oa, H' oa = some (vi (overFrom rain (List.replicate rain.length 0) bs lv i)) ∧
      ∃ x5 x6 x7 x8, σ = [some (.ref ra), some (.ref ba), some (.ref la), some (.ref pl), some (.ref oa), x5, x6, x7, x8, none, none]))
      ⟨s3, ⟨[], hpl, rfl, fun i v p e => by simp at e⟩, ol, by rw [overFrom_zero]; exact upd_same, none, none, none, none, rfl⟩ (fun i σ H' _ p => ⟨same_t p.1 hv1, SqL.of (p.1 _ _ hla)⟩) ?_ ?_⟩
    · rintro i x σ H1 H2 hi ⟨t1, hps, oa, hoa, x5, x6, x7, x8, rfl⟩ ⟨t, y1, y2, rfl, nt, rfl, e1, e2⟩
      have e1 : vs[i]? = some y1 := e1
      obtain ⟨l, hl, rfl⟩ := get_int (show (lv.map V.int)[i]? = some y2 from e2)
      have hbi : bs[i]? = some bs[i] := List.getElem?_eq_getElem (by have := (List.getElem?_eq_some_iff.mp e1).1; omega)
      have hbar := hv3 i y1 _ e1 hbi
      obtain ⟨g1, g2⟩ := passFrom_get rain i (List.replicate rain.length 0) bs lv _ l hbi hl
      have t2 := t1.trans (same_new (o := .tup [y1, .int l]) nt)
      have u2 := same_new (o := .tup [y1, .int l]) nt
      refine ⟨t, _, rfl, .inl (.inl upd_same), rfl, _, _, rfl, _, _, rfl, rfl, ?_⟩
      -- inflow
      refine ⟨_, rfl, _, rfl, ra, oa, _, _, rfl, same_t t2 hra, SqL.of (u2 _ _ hoa), fun D nD => lc_map (walk_zipM rfl) (by simp only [List.length_map]; omega) (fun j => .int ((inflowOf rain (overFrom rain (List.replicate rain.length 0) bs lv i) bs[i]).getD j 0)) nD (fun H' e => ⟨same_t (t2.trans e) hra, SqL.of (e _ _ (u2 _ _ hoa))⟩) (fun j x H3 H4 hj s4 y => ?_) (fun H5 s5 e5 => ?_)⟩
      · obtain ⟨tt, z1, z2, rfl, ntt, rfl, w1, w2⟩ := y
        refine ⟨same_new ntt, fun R k1 => ?_⟩
        obtain ⟨q1, hq1, rfl⟩ := get_int (show (rain.map V.int)[j]? = some z1 from w1)
        obtain ⟨q2, hq2, rfl⟩ := get_int (show ((overFrom rain (List.replicate rain.length 0) bs lv i).map V.int)[j]? = some z2 from w2)
        rw [inflow_get hq1 hq2] at k1
        obtain ⟨tb, db, rfl, htb, hdb⟩ := hbar
        have hr1 := hrain q1 (List.mem_of_getElem? hq1)
        refine ⟨tt, _, rfl, .inl (.inl upd_same), rfl, _, _, rfl, _, _, rfl, rfl, rfl, _, rfl, _, rfl, tb, _, _, _, rfl, rfl, same_t ((t2.trans s4).trans (same_new ntt)) htb, rfl, _, _, rfl, rfl, .inl ⟨by omega, by omega⟩, _, rfl, _, _, rfl, rfl, k1 _ (Same.refl _)⟩
      · have eN : (List.range (min (rain.map V.int).length ((overFrom rain (List.replicate rain.length 0) bs lv i).map V.int).length)).map (fun j => V.int ((inflowOf rain (overFrom rain (List.replicate rain.length 0) bs lv i) bs[i]).getD j 0)) = (inflowOf rain (overFrom rain (List.replicate rain.length 0) bs lv i) bs[i]).map V.int := by
          rw [show (fun j => V.int ((inflowOf rain (overFrom rain (List.replicate rain.length 0) bs lv i) bs[i]).getD j 0)) = V.int ∘ (fun j => (inflowOf rain (overFrom rain (List.replicate rain.length 0) bs lv i) bs[i]).getD j 0) from rfl, ← List.map_map, map_range_getD (by rw [inflow_length]; simp)]
        rw [eN] at e5
        -- passage = Passage(level, barrel, inflow)
        refine ⟨_, rfl, _, rfl, _, rfl, fun px dx nx ndx nex => ?_⟩
        have s6 : Same H5 (upd (upd H5 dx (.own px)) px (.ins CP dx [])) := (same_new ndx).trans (same_new (by rw [upd_ne (Ne.symm nex)]; exact nx))
        have s7 := (t2.trans s5).trans s6
        refine ⟨px, dx, D, l, y1, bs[i], _, rfl, upd_same, hbar.mono s7, s6 _ _ e5, by rw [inflow_length]; omega, fun H6 la' ld' lm' lo' kp m1 m2 m3 m4 hpa => ⟨rfl, ?_⟩⟩
        have s8 : Same H5 H6 := fun b o q => kp _ _ (s6 _ _ q) (ne_of_none q nx)
        have s9 := (u2.trans s5).trans s8
        obtain ⟨dx', g0, g11, g12, g13, g14⟩ := id hpa
        refine ⟨_, rfl, px, CP, dx', _, _, rfl, g0, T.cl_Passage, T.na_Passage_over, rfl, ?_⟩
        obtain ⟨ws, hw1, hw2, hw3⟩ := hps.mono s9
        have hwl : ws.length ≤ 1000 := by rw [hw2, List.length_take, passTicks, passFrom_length]; omega
        refine ⟨_, rfl, .inl ⟨rfl, _, SqL.of hw1⟩, _, rfl, pl, _, _, rfl, rfl, hw1, Nat.lt_of_le_of_lt hwl (by decide), ?_⟩
        have hpn : H pl = none := n1
        have hlt : i < (passTicks rain bs lv).length := (List.getElem?_eq_some_iff.mp g1).1
        have etk : (passTicks rain bs lv).take (i + 1) = (passTicks rain bs lv).take i ++ [mkPas l bs[i].cap (inflowOf rain (overFrom rain (List.replicate rain.length 0) bs lv i) bs[i]) bs[i].draws] := by
          rw [List.take_add_one, show (passTicks rain bs lv)[i]? = _ from g1]
          rfl
        have hpl5 := s6 _ _ (s5 _ _ (u2 _ _ hps.choose_spec.1))
        have npx : px ≠ pl := (ne_of_none (s5 _ _ (u2 _ _ hps.choose_spec.1)) nx).symm
        have nl1 : la' ≠ pl := (ne_of_none hpl5 m1).symm
        have nl2 : ld' ≠ pl := (ne_of_none hpl5 m2).symm
        have nl3 : lm' ≠ pl := (ne_of_none hpl5 m3).symm
        have nlo : lo' ≠ pl := (ne_of_none hpl5 m4).symm
        refine ⟨Same.mut (t1.trans s9) hpn, ?_, lo', ?_, _, _, _, _, rfl⟩
        · rw [etk]
          refine ⟨_, upd_same, by rw [List.length_append, List.length_append, hw2]; rfl, fun j v q hv hq => ?_⟩
          rw [rmS_upd (.inl rfl)]
          by_cases hj : j < ws.length
          · rw [List.getElem?_append_left hj] at hv
            rw [List.getElem?_append_left (by rw [← hw2]; exact hj)] at hq
            exact hw3 j v q hv hq
          · rw [List.getElem?_append_right (by omega)] at hv
            rw [List.getElem?_append_right (by rw [← hw2]; omega), ← hw2] at hq
            cases ej : j - ws.length with
            | succ m => rw [ej] at hv; simp at hv
            | zero =>
              rw [ej] at hv hq
              cases (Option.some.inj hv : V.ref px = v)
              cases Option.some.inj hq
              have fr : ∀ q, q ≠ pl → H q = none → ¬ (q = pl ∨ Old H q) := fun q n1 n2 z => z.elim n1 (not_old n2)
              have sH : Same H (upd (upd H5 dx (.own px)) px (.ins CP dx [])) := (t2.trans s5).trans s6
              exact ⟨px, dx', la', ld', lm', lo', rfl, by rw [rmS_ne (fr _ npx ((t2.trans s5).free nx))]; exact g0, by rw [rmS_ne (fr _ nl1 (sH.free m1))]; exact g11, by rw [rmS_ne (fr _ nl2 (sH.free m2))]; exact g12, by rw [rmS_ne (fr _ nl3 (sH.free m3))]; exact g13, by rw [rmS_ne (fr _ nlo (sH.free m4))]; exact g14⟩
        · rw [upd_ne nlo, g2]
          exact g14
    · rintro σ H1 ⟨t1, hps, oa, hoa, x5, x6, x7, x8, rfl⟩
      have e : (passTicks rain bs lv).take (min vs.length (lv.map V.int).length) = passTicks rain bs lv := List.take_of_length_le (by rw [passTicks, passFrom_length, hv2, List.length_map]; exact Nat.le_refl _)
      rw [e] at hps
      obtain ⟨ws, hw1, hw2, hw3⟩ := hps
      exact ⟨_, rfl, k pl H1 t1 n1 ⟨ws, by rw [rmS_ne (not_old n1)]; exact hw1, hw2, fun i v p hv hp => (hw3 i v p hv hp).mono (rmS_sub fun b h => .inr h)⟩⟩
end
end Bk
set_option Elab.async false
set_option maxRecDepth 100000
set_option maxHeartbeats 1000000
namespace Bk
open PySem L2
/-- the steps of a walk stand at a (told of a heap without a) -/
def StepsRm (K : PySem.W.Frag) (CP : Addr) (H : Hp) (a : Addr) (L : List (Int × List Pas)) : Prop := ∃ vs : List V, H a = some (.lst vs) ∧ vs.length = L.length ∧ ∀ (i : Nat) (v : V) (c : Int) (ps : List Pas), vs[i]? = some v → L[i]? = some (c, ps) → ∃ t pl : Addr, v = .ref t ∧ rm a H t = some (.tup [.int c, .ref pl]) ∧ PassesAt CP (rm a H) pl ps
theorem StepsRm.mono {K : PySem.W.Frag} {CP : Addr} {H H' : Hp} {a : Addr} {L : List (Int × List Pas)} (e : Same H H') (h : StepsRm K CP H a L) : StepsRm K CP H' a L := by
  obtain ⟨vs, h1, h2, h3⟩ := h
  refine ⟨vs, e _ _ h1, h2, fun i v c ps hv hp => ?_⟩
  obtain ⟨t, pl, e1, e2, e3⟩ := h3 i v c ps hv hp
  exact ⟨t, pl, e1, rm_mono e _ _ e2, e3.mono (rm_mono e)⟩
section
variable {P : Program} {w : World} {K : PySem.W.Frag} {mg : Str → Option Value} {base : Heap} {CP CR : Addr}
def spWalk (K : PySem.W.Frag) (CP : Addr) : Sp := fun vs H Q _ => ∃ (ra ba : Addr) (rain : List Int) (bs : List Bar) (R : Nat), vs = [.ref ra, .ref ba, .int R] ∧ SqT K H ra (rain.map V.int) ∧ BarsAt K H ba bs ∧ RowOk rain bs ∧ 1 ≤ bs.length ∧ (R : Int) ≤ forever ∧
  ∀ (la sa t : Addr) (H' : Hp) (L : List (Int × List Pas)), Same H H' → H la = none → H sa = none → H' la = some (vi (lvAt rain bs (R * rain.length))) → StepsRm K CP H' sa L → la ≠ sa → StepsOk rain bs R L R → H' t = some (.tup [.ref la, .ref sa]) → Q (.ref t) H'
theorem ok_walk {f : Addr} {fd : FuncData} (F : Fun K "walk" "walk" s_walk f fd) (T : Txt K mg CP CR) (c_pass_ticks : Callee P w K mg base "pass_ticks" 4 (spPassTicks K CP)) (c_Passage_gain : CalleeM P w K mg base CP "gain" 1 (spGain CP)) (c_Passage_rounds_alike : CalleeM P w K mg base CP "rounds_alike" 2 (spAlike CP)) :
    FnOk P w K mg base CX0 6 f fd P_walk (spWalk K CP) := by
  refine F.ok sc_walk (fun vs H Q E h => ?_) (fun cdv A outer s H vs Q E hr h => ?_)
  · obtain ⟨ra, ba, rain, bs, R, rfl, _⟩ := h
    rfl
  · obtain ⟨ra, ba, rain, bs, R, rfl, hra, hba, ok, hb1, hR, k⟩ := h
    obtain ⟨vs, hv1, hv2, hv3⟩ := id hba
    refine ⟨_, (pss_cons (ps_set (i := 3) sc_walk.nd rfl (.inl rfl) (pe_op op_rep (pe_lst (pa_cons pe_int pa_nil)) (pe_callB call_len_seq (by rfl) T.n_len bt_len (pa_cons (pv 1) pa_nil))))
      (pss_cons (ps_set (i := 4) sc_walk.nd rfl (.inl rfl) (pe_lst pa_nil))
      (pss_cons (ps_set (i := 5) sc_walk.nd rfl (.inl rfl) (pv 2))
      (pss_cons (ps_while PassesOwn.never (pt_cmpR op_gt (pv 5) pe_int (nomark _))
        (pss_cons (ps_set (i := 6) sc_walk.nd rfl (.inl rfl) (pe_callF c_pass_ticks (hr.mono (by decide)) (by rfl) (pa_cons (pv 0) (pa_cons (pv 1) (pa_cons (pv 3) pa_nil)))))
      (pss_cons (ps_set (i := 7) sc_walk.nd rfl (.inr rfl) (pe_callB (cr_min rfl) (by rfl) T.n_min bt_min (pa_cons (pe_op op_cat (pe_lst (pa_cons (pv 5) pa_nil)) (pe_lc (own := [("passage", 8)]) (g := gName 8) (by rfl) sc_walk.nd (pi_list (pv 6)) (blkOk_by (own := [("passage", 8)]) (N := N_walk) (sc := defScope s_walk) (by decide +kernel)) (fun _ _ _ _ _ => (pg_name (i := 8) sc_walk.nd rfl (.inl rfl))) (fun _ _ _ _ _ => pts_nil) (fun _ _ _ _ _ => (pe_methF0 c_Passage_rounds_alike (hr.mono (by decide)) (pv 8))))) pa_nil)))
      (pss_cons (ps_setLc (i := 3) (own := [("passage", 8)]) (g := gName 8) (by rfl) sc_walk.nd rfl rfl (sw_true rfl rfl rfl (by decide +kernel)) (pi_list (pv 6)) (blkOk_by (own := [("passage", 8)]) (N := N_walk) (sc := defScope s_walk) (by decide +kernel)) (fun _ _ _ _ _ => (pg_name (i := 8) sc_walk.nd rfl (.inl rfl))) (fun _ _ _ _ _ => pts_nil) (fun _ _ _ _ _ => (pe_op op_add (pe_fldK (K := K) rfl (pe_fld (pv 8) rfl)) (pe_op op_mul (pv 7) (pe_methF0 c_Passage_gain (hr.mono (by decide)) (pv 8))))))
      (pss_cons (ps_expr (pe_bm PySem.F.plainAttrs_list PySem.F.slot_list_append PySem.F.type_list_append mt_append (pv 4) (pa_cons (pe_tup (pa_cons (pv 7) (pa_cons (pv 6) pa_nil))) pa_nil)))
      (pss_one (ps_set (i := 5) sc_walk.nd rfl (.inl rfl) (pe_op op_sub (pv 5) (pv 7)))))))))
      (pss_one (ps_ret (pe_tup (pa_cons (pv 3) (pa_cons (pv 4) pa_nil))))))))), ?_⟩
    -- levels = [0] * len(barrels); steps = []; left = rounds
    refine ⟨by decide, fun z0 n1 => ?_⟩
    have s1 := same_new (o := .lst [.int 0]) n1
    refine ⟨_, rfl, ba, _, rfl, .inr (same_t s1 hv1), z0, _, [.int 0], rfl, rfl, upd_same, by omega, by have := ok.cnt; omega, by have := ok.cnt; rw [hv2]; show 1 * (bs.length : Int).toNat ≤ 16777216; omega, fun la0 n2 => ?_⟩
    have eo : (List.replicate (vs.length : Int).toNat [V.int 0]).flatten = (lvAt rain bs (0 * rain.length)).map V.int := by
      rw [hv2, Int.toNat_natCast, Nat.zero_mul, lvAt_zero]
      induction bs.length with
      | zero => rfl
      | succ n ih => rw [List.replicate_succ, List.flatten_cons, ih, List.replicate_succ, List.map_cons]; rfl
    rw [eo]
    have s2 := s1.trans (same_new (o := .lst ((lvAt rain bs (0 * rain.length)).map V.int)) n2)
    have f2 : H la0 = none := s1.free n2
    refine ⟨by decide, fun sa n3 => ?_⟩
    have s3 := s2.trans (same_new (o := .lst []) n3)
    have f3 : H sa = none := s2.free n3
    have n23 : la0 ≠ sa := ne_of_none upd_same n3
    refine ⟨_, rfl, ?_⟩
    refine ⟨fun m σ H' => ∃ (la : Addr) (r : Nat) (L : List (Int × List Pas)) (x6 x7 x8 : Option V), σ = [some (.ref ra), some (.ref ba), some (.int R), some (.ref la), some (.ref sa), some (.int ((R : Int) - r)), x6, x7, x8] ∧ r ≤ R ∧ m = R - r ∧ Same H H' ∧ H la = none ∧ la ≠ sa ∧
      H' la = some (vi (lvAt rain bs (r * rain.length))) ∧ StepsRm K CP H' sa L ∧ StepsOk rain bs R L r,
      ⟨R, la0, 0, [], none, none, none, by simp [L2.start], Nat.zero_le _, rfl, s3, f2, n23, by rw [upd_ne n23]; exact upd_same, ⟨[], upd_same, rfl, fun i v c ps e => by simp at e⟩, .nil⟩, ?_⟩
    rintro m σ H1 ⟨la, r, L, x6, x7, x8, rfl, hrR, rfl, t1, fl, nls, hla, hst, hso⟩
    refine ⟨_, rfl, _, _, rfl, rfl, _, rfl, ?_⟩
    by_cases hlt : r < R
    · refine iteBT (decide_eq_true (by omega)) ?_
      refine ⟨fun σ' H' => ∃ m', m' < R - r ∧ ∃ (la : Addr) (r : Nat) (L : List (Int × List Pas)) (x6 x7 x8 : Option V), σ' = [some (.ref ra), some (.ref ba), some (.int R), some (.ref la), some (.ref sa), some (.int ((R : Int) - r)), x6, x7, x8] ∧ r ≤ R ∧ m' = R - r ∧ Same H H' ∧ H la = none ∧ la ≠ sa ∧
        H' la = some (vi (lvAt rain bs (r * rain.length))) ∧ StepsRm K CP H' sa L ∧ StepsOk rain bs R L r, fun σ' H' z => z, ?_⟩
      -- passages = pass_ticks(rain, barrels, levels)
      refine ⟨_, rfl, _, rfl, _, rfl, ra, ba, la, rain, bs, _, rfl, same_t t1 hra, hba.mono t1, hla, by have := ok.len2; omega, by have := ok.cnt; omega, ok.fall, fun pl H2 u2 np hps => ?_⟩
      rw [pasAt_ticks ok r] at hps
      generalize hP : pasAt rain bs (r * rain.length) rain.length = ps at hps
      have hpsn := hps
      have hps := hps.mono rmS_same
      have hpm : ∀ p ∈ ps, 0 ≤ p.gain ∧ p.gain ≤ 1000000000 ∧ 1 ≤ p.alike ∧ p.rows ≠ [] ∧ p.rows.length = rain.length := fun p hp => pasAt_gain ok (by rw [hP]; exact hp)
      have hpl : ps.length = bs.length := by rw [← hP]; exact pasAt_length
      obtain ⟨ws, hw1, hw2, hw3⟩ := id hps
      have t2 := t1.trans u2
      -- count = min([left] + [passage.rounds_alike() for passage in passages])
      refine ⟨_, rfl, by show 1 ≤ sizeLine; decide, fun q1 nq1 => ?_⟩
      have u3 := same_new (o := .lst [.int ((R : Int) - r)]) nq1
      have hc := ok.cnt
      have hl2 := ok.len2
      refine ⟨_, rfl, pl, rfl, ⟨_, SqL.of (u3 _ _ hw1)⟩, fun D nD => lc_map walk_list (by omega) (fun i => .int ((ps.map Pas.alike).getD i 0)) nD (fun H' e => SqL.of (e _ _ (u3 _ _ hw1))) (fun i x H3 H4 hi s4 y => ?_) (fun H3 s3' e3 => ?_)⟩
      · obtain ⟨rfl, hx⟩ := y
        refine ⟨Same.refl _, fun R0 k1 => ⟨rfl, ?_⟩⟩
        have hpi : ps[i]? = some ps[i] := List.getElem?_eq_getElem (by omega)
        have hp := (hw3 i x _ hx hpi).mono (u3.trans s4)
        obtain ⟨g1, g2, g3, g4, g5⟩ := hpm _ (List.getElem_mem (by omega : i < ps.length))
        obtain ⟨a, dx, l1, l2, l3, l4, rfl, h0, _⟩ := id hp
        have e : (ps.map Pas.alike).getD i 0 = ps[i].alike := by simp [List.getD, hpi]
        rw [e] at k1
        exact ⟨_, rfl, a, dx, _, rfl, h0, rfl, _, _, rfl, hp, g4, by omega, by omega, k1⟩
      · have eN : (List.range ws.length).map (fun i => V.int ((ps.map Pas.alike).getD i 0)) = (ps.map Pas.alike).map V.int := by
          rw [show (fun i => V.int ((ps.map Pas.alike).getD i 0)) = V.int ∘ (fun i => (ps.map Pas.alike).getD i 0) from rfl, ← List.map_map, map_range_getD (by rw [List.length_map, hw2])]
        rw [eN] at e3
        have v3 := u3.trans s3'
        refine ⟨q1, D, _, _, rfl, rfl, s3' _ _ upd_same, e3, by simp only [List.length_map, List.length_cons, List.length_nil, hpl]; show 1 + _ ≤ 16777216; omega, fun q3 nq3 => ?_⟩
        have v4 := v3.trans (same_new (o := .lst ([V.int ((R : Int) - r)] ++ (ps.map Pas.alike).map V.int)) nq3)
        refine ⟨q3, ((R : Int) - r) :: ps.map Pas.alike, rfl, SqL.of upd_same, by simp, fun cnt hm hlb => ?_⟩
        have hcl : cnt ≤ (R : Int) - r := hlb _ List.mem_cons_self
        have hca : ∀ p ∈ ps, cnt ≤ p.alike := fun p hp => hlb _ (List.mem_cons_of_mem _ (List.mem_map.mpr ⟨p, hp, rfl⟩))
        have hc1 : 1 ≤ cnt := by
          rcases List.mem_cons.mp hm with e | q
          · omega
          · obtain ⟨p, hp, e⟩ := List.mem_map.mp q
            have := (hpm p hp).2.2.1
            omega
        obtain ⟨cn, rfl⟩ : ∃ cn : Nat, cnt = (cn : Int) := ⟨cnt.toNat, by omega⟩
        obtain ⟨lp1, lp2⟩ := leap ok r cn (by rw [hP]; exact hca)
        rw [hP] at lp1 lp2
        have hR' : (R : Int) ≤ 1000000000000000001 := hR
        -- levels = [passage.start + count * passage.gain() for passage in passages]
        refine ⟨_, rfl, pl, rfl, ⟨_, SqL.of (v4 _ _ hw1)⟩, fun D2 nD2 => lc_map walk_list (by omega) (fun i => .int ((lvAt rain bs ((r + cn) * rain.length)).getD i 0)) nD2 (fun H' e => SqL.of (e _ _ (v4 _ _ hw1))) (fun i x H5 H6 hi s5 y => ?_) (fun H5 s5 e5 => ?_)⟩
        · obtain ⟨rfl, hx⟩ := y
          refine ⟨Same.refl _, fun R0 k1 => ⟨rfl, ?_⟩⟩
          have hpi : ps[i]? = some ps[i] := List.getElem?_eq_getElem (by omega)
          have hp := (hw3 i x _ hx hpi).mono (v4.trans s5)
          obtain ⟨g1, g2, g3, g4, g5⟩ := hpm _ (List.getElem_mem (by omega : i < ps.length))
          obtain ⟨a, dx, l1, l2, l3, l4, rfl, h0, _⟩ := id hp
          have e : (lvAt rain bs ((r + cn) * rain.length)).getD i 0 = ps[i].start + (cn : Int) * ps[i].gain := by rw [lp2]; simp [List.getD, hpi]
          rw [e] at k1
          refine ⟨_, rfl, a, CP, dx, _, _, rfl, h0, T.cl_Passage, T.na_Passage_start, rfl, _, rfl, _, rfl, a, dx, _, rfl, h0, rfl, _, _, rfl, hp, g4, ?_⟩
          exact ⟨_, _, rfl, rfl, .inl ⟨by omega, by omega⟩, _, _, rfl, rfl, k1 _ (Same.refl _)⟩
        · have eN2 : (List.range ws.length).map (fun i => V.int ((lvAt rain bs ((r + cn) * rain.length)).getD i 0)) = (lvAt rain bs ((r + cn) * rain.length)).map V.int := by
            rw [show (fun i => V.int ((lvAt rain bs ((r + cn) * rain.length)).getD i 0)) = V.int ∘ (fun i => (lvAt rain bs ((r + cn) * rain.length)).getD i 0) from rfl, ← List.map_map, map_range_getD (by unfold lvAt; rw [List.length_map, cols_length, hw2, hpl])]
          rw [eN2] at e5
          have v5 := v4.trans s5
          have t5 := t2.trans v5
          have fD2 : H D2 = none := (t2.trans v4).free nD2
          -- steps.append((count, passages))
          obtain ⟨zs, hz1, hz2, hz3⟩ := hst.mono (u2.trans v5)
          have nD2s : D2 ≠ sa := (ne_of_none (hst.mono (u2.trans v4)).choose_spec.1 nD2).symm
          have npls : pl ≠ sa := (ne_of_none hst.choose_spec.1 np).symm
          refine ⟨_, rfl, .inl ⟨rfl, _, SqL.of hz1⟩, _, rfl, _, rfl, by show 2 ≤ sizeLine; decide, fun tp ntp => ?_⟩
          have v6 := same_new (o := .tup [.int (cn : Int), .ref pl]) ntp
          have ntps : tp ≠ sa := (ne_of_none hz1 ntp).symm
          have hso' : StepsOk rain bs R (L ++ [((cn : Int), ps)]) (r + cn) := by
            have := StepsOk.snoc hso (c := cn) (by omega) (by omega) (by rw [hP]; exact hca) (by
              rcases List.mem_cons.mp hm with e | q
              · left; omega
              · right
                obtain ⟨p, hp, e⟩ := List.mem_map.mp q
                exact ⟨p, by rw [hP]; exact hp, e.symm⟩)
            rw [hP] at this
            exact this
          have hlen := steps_le ok hR hso
          refine ⟨sa, _, _, rfl, rfl, v6 _ _ hz1, by rw [hz2]; exact Nat.lt_of_le_of_lt hlen (by decide), ?_⟩
          refine ⟨_, rfl, _, rfl, _, _, rfl, rfl, R - (r + cn), by omega, D2, r + cn, L ++ [((cn : Int), ps)], some (.ref pl), some (.int (cn : Int)), x8, ?_, by omega, rfl, Same.mut (t5.trans v6) f3, fD2, nD2s, ?_, ?_, hso'⟩
          · have : (R : Int) - r - cn = (R : Int) - ((r + cn : Nat) : Int) := by omega
            rw [← this]
            rfl
          · rw [upd_ne nD2s]
            exact v6 _ _ e5
          · refine ⟨_, upd_same, by rw [List.length_append, List.length_append, hz2]; rfl, fun i v c0 ps0 hv hp => ?_⟩
            rw [rm_upd]
            by_cases hj : i < zs.length
            · rw [List.getElem?_append_left hj] at hv
              rw [List.getElem?_append_left (by rw [← hz2]; exact hj)] at hp
              obtain ⟨t, pl0, e1, e2, e3⟩ := hz3 i v c0 ps0 hv hp
              exact ⟨t, pl0, e1, rm_mono v6 _ _ e2, e3.mono (rm_mono v6)⟩
            · rw [List.getElem?_append_right (by omega)] at hv
              rw [List.getElem?_append_right (by rw [← hz2]; omega), ← hz2] at hp
              cases ej : i - zs.length with
              | succ m => rw [ej] at hv; simp at hv
              | zero =>
                rw [ej] at hv hp
                cases (Option.some.inj hv : V.ref tp = v)
                cases Option.some.inj hp
                refine ⟨tp, pl, rfl, by rw [rm_ne ntps]; exact upd_same, ?_⟩
                exact (hpsn.mono (rm_of_S ⟨_, hst.choose_spec.1⟩)).mono (rm_mono (v5.trans v6))
    · have e : r = R := by omega
      subst e
      refine iteBF (decide_eq_false (by omega)) ?_
      -- return levels, steps
      refine ⟨_, rfl, _, rfl, by show 2 ≤ sizeLine; decide, fun t nt => ?_⟩
      have u := same_new (o := .tup [V.ref la, V.ref sa]) nt
      exact k la sa t _ L (t1.trans u) fl f3 (u _ _ hla) (hst.mono u) nls hso upd_same
end
end Bk
set_option Elab.async false
set_option maxRecDepth 100000
set_option maxHeartbeats 1000000
namespace Bk
open PySem L2
local macro_rules | `(tactic| walk_at "hp") => `(tactic| first | assumption | exact upd_same | (rw [upd_ne (by first | assumption | (apply Ne.symm; assumption))]; walk_at "hp"))
def rF (ra ba : Addr) : List (Str × V) := [("_rain", .ref ra), ("_barrels", .ref ba)]
/-- a row stands at v -/
def RowAt (K : PySem.W.Frag) (CR : Addr) (H : Hp) (v : V) (rain : List Int) (bs : List Bar) : Prop := ∃ a dx ra ba : Addr, v = .ref a ∧ H a = some (.ins CR dx (rF ra ba)) ∧ SqT K H ra (rain.map V.int) ∧ BarsAt K H ba bs
theorem RowAt.mono {K : PySem.W.Frag} {CR : Addr} {H H' : Hp} {v : V} {rain : List Int} {bs : List Bar} (e : Same H H') (h : RowAt K CR H v rain bs) : RowAt K CR H' v rain bs := by
  obtain ⟨a, dx, ra, ba, e1, h1, h2, h3⟩ := h
  exact ⟨a, dx, ra, ba, e1, e _ _ h1, same_t e h2, h3.mono e⟩
section
variable {P : Program} {w : World} {K : PySem.W.Frag} {mg : Str → Option Value} {base : Heap} {CP CR : Addr}
/-! ### Row.__init__ -/
def spRowInit (K : PySem.W.Frag) (CR : Addr) : Sp := fun vs H Q _ => ∃ (a dx ra : Addr) (rain : List Int) (bs : List Bar) (bvs : List V), vs = .ref a :: .ref ra :: bvs ∧ H a = some (.ins CR dx []) ∧ SqT K H ra (rain.map V.int) ∧ bvs.length = bs.length ∧ (∀ (i : Nat) (v : V) (b : Bar), bvs[i]? = some v → bs[i]? = some b → BarAt K H v b) ∧
  RowOk rain bs ∧ 1 ≤ bs.length ∧ (bs.map Bar.name).Nodup ∧ ∀ H', Kp a H H' → RowAt K CR H' (.ref a) rain bs → Q .non H'
theorem ok_row_init {f : Addr} {fd : FuncData} (F : Fun K "__init__" "Row.__init__" s_Row_init f fd) (T : Txt K mg CP CR) (c_check_rain : Callee P w K mg base "check_rain" 2 (spCheckRain K)) (c_check_barrels : Callee P w K mg base "check_barrels" 3 (spCheckBarrels K)) : FnR P w K mg base CX0 4 f (spRowInit K CR) := by
  obtain ⟨oc, od, kV, doc, pm, an, cdv, ct, osl, rfl, lk, hcd⟩ := F.ex
  refine FnR.imp (StX.fn_star (ps := ["self", "rain"]) (pv := "barrels") (k := 3) (sp := fun vs H Q _ => ∃ (a dx ra ba : Addr) (rain : List Int) (bs : List Bar), vs = [.ref a, .ref ra, .ref ba] ∧ H a = some (.ins CR dx []) ∧ SqT K H ra (rain.map V.int) ∧ BarsAt K H ba bs ∧ RowOk rain bs ∧ 1 ≤ bs.length ∧ (bs.map Bar.name).Nodup ∧ ∀ H', Kp a H H' → RowAt K CR H' (.ref a) rain bs → Q .non H')
    lk hcd sc_Row_init StX.cxUp_none (StX.bind_star2 (B := fun us => bindArgs (PySem.W.fnOf "__init__" "Row.__init__" (defArgs s_Row_init) (defBody s_Row_init) (defScope s_Row_init) .none kV doc pm an cdv ct) ⟨us, []⟩) (p1 := "self") (p2 := "rain") (pv := "barrels") (fun a b => rfl) (fun a b r rs => rfl)) ?_) ?_
  · rintro A outer s H vs Q E hr ⟨a, dx, ra, ba, rain, bs, rfl, h0, hra, hba, ok, hb1, hnd, k⟩
    refine ⟨_, (pss_cons (ps_expr (pe_callF c_check_rain (hr.mono (by decide)) (by rfl) (pa_cons (pv 1) pa_nil)))
      (pss_cons (ps_expr (pe_callF c_check_barrels (hr.mono (by decide)) (by rfl) (pa_cons (pv 2) (pa_cons (pe_callB call_len_seq (by rfl) T.n_len bt_len (pa_cons (pv 1) pa_nil)) pa_nil))))
      (pss_cons (ps_fld (pv 0) (pe_callTy call_tuple_of (by rfl) T.n_tuple bt_tuple (pa_cons (pv 1) pa_nil)) rfl)
      (pss_one (ps_fld (pv 0) (pv 2) rfl))))), ?_⟩
    refine ⟨_, rfl, ra, rain, rfl, hra, ok.len, ok.len2, ok.fall, fun H1 s1 => ?_⟩
    refine ⟨_, rfl, _, rfl, ra, _, rfl, .inr (same_t s1 hra), ba, rain.length, bs, by rw [List.length_map]; rfl, hba.mono s1, by have := ok.len2; omega, hb1, ok.cnt, ok.bars, hnd, fun H2 s2 => ?_⟩
    have t2 := s1.trans s2
    refine ⟨_, rfl, ra, _, rfl, .inr ⟨same_t t2 hra, ?_⟩⟩
    refine ⟨_, rfl, a, CR, dx, _, rfl, t2 _ _ h0, T.cl_Row, T.na_Row_rain, by show 0 < 1000; decide, ?_⟩
    refine ⟨_, rfl, _, rfl, a, CR, dx, _, rfl, upd_same, T.cl_Row, T.na_Row_barrels, by show 1 < 1000; decide, ?_⟩
    have k1 : Kp a H (upd (upd H2 a (.ins CR dx (putF "_rain" (.ref ra) []))) a (.ins CR dx (putF "_barrels" (.ref ba) (putF "_rain" (.ref ra) [])))) := Kp.upd (Kp.upd fun b o q _ => t2 _ _ q)
    refine k _ k1 ⟨a, dx, ra, ba, rfl, upd_same, k1.tup h0 hra, ?_⟩
    obtain ⟨vs, hv1, hv2, hv3⟩ := hba
    refine ⟨vs, k1.tup h0 hv1, hv2, fun i v b hv hb => ?_⟩
    obtain ⟨t, d, e, ht, hd⟩ := hv3 i v b hv hb
    exact ⟨t, d, e, k1.tup h0 ht, k1.tup h0 hd⟩
  · rintro vs H Q E ⟨a, dx, ra, rain, bs, bvs, rfl, h0, hra, hl, hb, ok, hb1, hnd, k⟩
    refine ⟨[.ref a, .ref ra], bvs, rfl, rfl, by rw [hl]; exact Nat.le_trans ok.cnt (by decide), fun p np => ?_⟩
    have s1 := same_new (o := .tup bvs) np
    refine ⟨a, dx, ra, p, rain, bs, rfl, s1 _ _ h0, same_t s1 hra, ⟨bvs, .inl (.inl upd_same), hl, fun i v b hv hb' => (hb i v b hv hb').mono s1⟩, ok, hb1, hnd, fun H' kp => k H' fun b o e n => kp _ _ (s1 _ _ e) n⟩
/-! ### the properties -/
def spRowRain (K : PySem.W.Frag) (CR : Addr) : Sp := fun vs H Q _ => ∃ (v : V) (rain : List Int) (bs : List Bar), vs = [v] ∧ RowAt K CR H v rain bs ∧ ∀ ra, SqT K H ra (rain.map V.int) → Q (.ref ra) H
theorem ok_row_rain {f : Addr} {fd : FuncData} (F : Fun K "rain" "Row.rain" s_Row_rain f fd) (T : Txt K mg CP CR) : FnOk P w K mg base CX0 1 f fd P_Row_rain (spRowRain K CR) := by
  refine F.ok sc_Row_rain (fun vs H Q E h => ?_) (fun cdv A outer s H vs Q E hr h => ?_)
  · obtain ⟨v, rain, bs, rfl, _⟩ := h
    rfl
  · obtain ⟨v, rain, bs, rfl, ⟨a, dx, ra, ba, rfl, h1, h2, h3⟩, k⟩ := h
    refine ⟨_, (pss_one (ps_ret (pe_fld (pv 0) rfl))), ?_⟩
    exact ⟨_, rfl, a, CR, dx, _, _, rfl, h1, T.cl_Row, T.na_Row_rain, rfl, k ra h2⟩
def spRowBarrels (K : PySem.W.Frag) (CR : Addr) : Sp := fun vs H Q _ => ∃ (v : V) (rain : List Int) (bs : List Bar), vs = [v] ∧ RowAt K CR H v rain bs ∧ ∀ ba, BarsAt K H ba bs → Q (.ref ba) H
theorem ok_row_barrels {f : Addr} {fd : FuncData} (F : Fun K "barrels" "Row.barrels" s_Row_barrels f fd) (T : Txt K mg CP CR) : FnOk P w K mg base CX0 1 f fd P_Row_barrels (spRowBarrels K CR) := by
  refine F.ok sc_Row_barrels (fun vs H Q E h => ?_) (fun cdv A outer s H vs Q E hr h => ?_)
  · obtain ⟨v, rain, bs, rfl, _⟩ := h
    rfl
  · obtain ⟨v, rain, bs, rfl, ⟨a, dx, ra, ba, rfl, h1, h2, h3⟩, k⟩ := h
    refine ⟨_, (pss_one (ps_ret (pe_fld (pv 0) rfl))), ?_⟩
    exact ⟨_, rfl, a, CR, dx, _, _, rfl, h1, T.cl_Row, T.na_Row_barrels, rfl, k ba h3⟩
def names (bs : List Bar) : List V := (bs.map Bar.name).map V.str
def spRowNames (K : PySem.W.Frag) (CR : Addr) : Sp := fun vs H Q _ => ∃ (v : V) (rain : List Int) (bs : List Bar), vs = [v] ∧ RowAt K CR H v rain bs ∧ bs.length ≤ 1000 ∧ ∀ p H', Same H H' → H' p = some (.tup (names bs)) → Q (.ref p) H'
theorem ok_row_names {f : Addr} {fd : FuncData} (F : Fun K "names" "Row.names" s_Row_names f fd) (T : Txt K mg CP CR) : FnOk P w K mg base CX0 1 f fd P_Row_names (spRowNames K CR) := by
  refine F.ok sc_Row_names (fun vs H Q E h => ?_) (fun cdv A outer s H vs Q E hr h => ?_)
  · obtain ⟨v, rain, bs, rfl, _⟩ := h
    rfl
  · obtain ⟨v, rain, bs, rfl, ⟨a, dx, ra, ba, rfl, h1, h2, h3⟩, hb, k⟩ := h
    obtain ⟨vs, hv1, hv2, hv3⟩ := id h3
    refine ⟨_, (pss_one (ps_ret (pe_callTy call_tuple_of (by rfl) T.n_tuple bt_tuple (pa_cons (pe_lc (own := [("barrel", 1)]) (g := gName 1) (by rfl) sc_Row_names.nd (pi_tup (pe_fld (pv 0) rfl)) (blkOk_by (own := [("barrel", 1)]) (N := N_Row_names) (sc := defScope s_Row_names) (by decide +kernel)) (fun _ _ _ _ _ => (pg_name (i := 1) sc_Row_names.nd rfl (.inl rfl))) (fun _ _ _ _ _ => pts_nil) (fun _ _ _ _ _ => (pe_ix (ixK (K := K) (r := rIxT) rfl ix_tup) (pv 1) pe_int (fun _ _ => rfl)))) pa_nil)))), ?_⟩
    refine ⟨_, rfl, a, CR, dx, _, .ref ba, rfl, h1, T.cl_Row, T.na_Row_barrels, rfl, ba, rfl, ⟨_, hv1⟩, fun D nD => lc_map walk_tup (by omega) (fun i => .str ((bs.map Bar.name).getD i default)) nD (fun _ e => same_t e hv1) (fun i x H2 H3 hi s2 y => ?_) (fun H' s' e' => ?_)⟩
    · obtain ⟨rfl, hx⟩ := y
      refine ⟨Same.refl _, fun R k1 => ⟨rfl, ?_⟩⟩
      have hbi : bs[i]? = some bs[i] := List.getElem?_eq_getElem (by omega)
      obtain ⟨t, d, rfl, ht, hd⟩ := hv3 i x _ hx hbi
      have e : (bs.map Bar.name).getD i default = bs[i].name := by simp [List.getD, hbi]
      rw [e] at k1
      exact ⟨_, rfl, t, _, _, _, rfl, rfl, same_t s2 ht, rfl, k1 _ (Same.refl _)⟩
    · have eN : (List.range vs.length).map (fun i => V.str ((bs.map Bar.name).getD i default)) = names bs := by
        rw [show (fun i => V.str ((bs.map Bar.name).getD i default)) = V.str ∘ (fun i => (bs.map Bar.name).getD i default) from rfl, ← List.map_map, map_range_getD (by rw [List.length_map, hv2])]
        rfl
      rw [eN] at e'
      exact ⟨D, _, rfl, .inl ⟨SqL.of e', fun l hl => k l _ (s'.trans (same_new hl)) upd_same⟩⟩
def spRowContains (K : PySem.W.Frag) (CR : Addr) : Sp := fun vs H Q _ => ∃ (v : V) (z : Str) (rain : List Int) (bs : List Bar), vs = [v, .str z] ∧ RowAt K CR H v rain bs ∧ bs.length ≤ 1000 ∧ ∀ H', Same H H' → Q (.bl (decide (z ∈ bs.map Bar.name))) H'
theorem ok_row_contains {f : Addr} {fd : FuncData} (F : Fun K "__contains__" "Row.__contains__" s_Row_contains f fd) (T : Txt K mg CP CR) (c_Row_names : CalleeP P w K mg base CR "names" 1 (spRowNames K CR)) : FnOk P w K mg base CX0 3 f fd P_Row_contains (spRowContains K CR) := by
  refine F.ok sc_Row_contains (fun vs H Q E h => ?_) (fun cdv A outer s H vs Q E hr h => ?_)
  · obtain ⟨v, z, rain, bs, rfl, _⟩ := h
    rfl
  · obtain ⟨v, z, rain, bs, rfl, hr0, hb, k⟩ := h
    obtain ⟨a, dx, ra, ba, rfl, h1, h2, h3⟩ := id hr0
    refine ⟨_, (pss_one (ps_ret (pe_cmpR op_in_seq (pv 1) (pe_propF c_Row_names (hr.mono (by decide)) (pv 0) rfl) (by with_unfolding_all rfl)))), ?_⟩
    refine ⟨_, rfl, _, rfl, a, dx, _, rfl, h1, _, rain, bs, rfl, hr0, hb, fun p H' s' e' => ⟨p, _, rfl, .inr (.inl (.inl e')), rfl, flat_strs _, ?_⟩⟩
    unfold names
    rw [if_neg Bool.false_ne_true, inV_str]
    exact k H' s'
/-! ### finding a barrel -/
theorem nth_name {bs : List Bar} {i : Nat} {b : Bar} (h : bs[i]? = some b) : (bs.map Bar.name)[i]? = some b.name := by rw [List.getElem?_map, h]; rfl
def spPlaceOf (K : PySem.W.Frag) (CR : Addr) : Sp := fun vs H Q _ => ∃ (v : V) (rain : List Int) (bs : List Bar) (i : Nat) (b : Bar), vs = [v, .str b.name] ∧ RowAt K CR H v rain bs ∧ bs[i]? = some b ∧ (bs.map Bar.name).Nodup ∧ bs.length ≤ 1000 ∧ ∀ H', Same H H' → Q (.int (i : Nat)) H'
theorem ok_place_of {f : Addr} {fd : FuncData} (F : Fun K "place_of" "place_of" s_place_of f fd) (T : Txt K mg CP CR) (c_Row_names : CalleeP P w K mg base CR "names" 1 (spRowNames K CR)) : FnOk P w K mg base CX0 3 f fd P_place_of (spPlaceOf K CR) := by
  refine F.ok sc_place_of (fun vs H Q E h => ?_) (fun cdv A outer s H vs Q E hr h => ?_)
  · obtain ⟨v, rain, bs, i, b, rfl, _⟩ := h
    rfl
  · obtain ⟨v, rain, bs, i, b, rfl, hr0, hi, hnd, hb, k⟩ := h
    obtain ⟨a, dx, ra, ba, rfl, h1, h2, h3⟩ := id hr0
    refine ⟨_, (pss_cons (ps_for PassesOwn.never rfl (pi_enumM false (by rfl) T.n_enumerate (pa_cons (pe_propF c_Row_names (hr.mono (by decide)) (pv 0) rfl) pa_nil)) (pg_tup rfl (pgs_cons (pg_name (i := 2) sc_place_of.nd rfl (.inl rfl)) (pgs_cons (pg_name (i := 3) sc_place_of.nd rfl (.inl rfl)) pgs_nil)))
        (pss_one (ps_if (pt_cmpR op_eq (pv 3) (pv 1) (nomark _))
        (pss_one (ps_ret (pv 2)))
        pss_nil)))
      (pss_one ps_never)), ?_⟩
    refine ⟨_, rfl, a, dx, _, rfl, h1, _, rain, bs, rfl, hr0, hb, fun p H1 s1 e1 => ?_⟩
    refine ⟨p, _, rfl, .inl (.inl e1), for_it walk_enumM (fun j σ H' => Same H1 H' ∧ j ≤ i ∧ ∃ x y, σ = [some (.ref a), some (.str b.name), x, y]) ⟨Same.refl _, Nat.zero_le _, _, _, rfl⟩ (fun j σ H' _ q => .inl (.inl (q.1 _ _ e1))) ?_ ?_⟩
    · rintro j x σ H2 H3 hj ⟨s2, hji, x0, y0, rfl⟩ ⟨t, z1, z2, rfl, nt, rfl, w1, w2⟩
      cases w1
      have w2 : (names bs)[j]? = some z2 := w2
      have hjl : j < bs.length := by unfold names at hj; simpa using hj
      have hbj : bs[j]? = some bs[j] := List.getElem?_eq_getElem hjl
      have ez : z2 = .str bs[j].name := by
        unfold names at w2
        rw [List.getElem?_map, nth_name hbj] at w2
        exact (Option.some.inj w2).symm
      subst ez
      have s3 := (s1.trans s2).trans (same_new (o := .tup [.int (j : Nat), .str bs[j].name]) nt)
      refine ⟨t, _, rfl, .inl (.inl upd_same), rfl, _, _, rfl, _, _, rfl, rfl, ?_⟩
      refine ⟨_, rfl, _, rfl, rfl, _, rfl, ite2 (fun c => ?_) (fun c => ?_)⟩
      · have c := V.str.inj (of_decide_eq_true c)
        have : j = i := nd_ix hnd (nth_name hbj) (by rw [c]; exact nth_name hi)
        subst this
        exact ⟨_, rfl, k _ s3⟩
      · have c : bs[j].name ≠ b.name := fun e => c (decide_eq_true (by rw [e]))
        have : j ≠ i := by
          intro e
          subst e
          rw [hbj] at hi
          exact c (by rw [Option.some.inj hi])
        exact ⟨s2.trans (same_new nt), by omega, _, _, rfl⟩
    · rintro σ H2 ⟨s2, hji, x0, y0, rfl⟩
      have := (List.getElem?_eq_some_iff.mp hi).1
      unfold names at hji
      simp at hji
      omega
theorem sIx_of {n d : Nat} {k : Nat} : HT.sIx n d (some (k : Int)) = min k n := HT.sIx_nat n d k
/-- the first k of a tuple's items -/
theorem BarsAt.take {K : PySem.W.Frag} {H : Hp} {p : Addr} {vs : List V} {bs : List Bar} {k : Nat} (h : SqT K H p (vs.take k)) (hl : vs.length = bs.length) (hb : ∀ (i : Nat) (v : V) (b : Bar), vs[i]? = some v → bs[i]? = some b → BarAt K H v b) : BarsAt K H p (bs.take k) := by
  refine ⟨vs.take k, h, by rw [List.length_take, List.length_take, hl], fun i v b hv hb' => ?_⟩
  have hi := (List.getElem?_eq_some_iff.mp hv).1
  rw [List.length_take] at hi
  rw [List.getElem?_take_of_lt (by omega)] at hv hb'
  exact hb i v b hv hb'
def spDownTo (K : PySem.W.Frag) (CR : Addr) : Sp := fun vs H Q _ => ∃ (v : V) (rain : List Int) (bs : List Bar) (i : Nat) (b : Bar), vs = [v, .str b.name] ∧ RowAt K CR H v rain bs ∧ bs[i]? = some b ∧ (bs.map Bar.name).Nodup ∧ bs.length ≤ 1000 ∧ ∀ p H', Same H H' → BarsAt K H' p (bs.take (i + 1)) → Q (.ref p) H'
theorem ok_down_to {f : Addr} {fd : FuncData} (F : Fun K "barrels_down_to" "barrels_down_to" s_barrels_down_to f fd) (T : Txt K mg CP CR) (c_Row_barrels : CalleeP P w K mg base CR "barrels" 1 (spRowBarrels K CR)) (c_place_of : Callee P w K mg base "place_of" 3 (spPlaceOf K CR)) :
    FnOk P w K mg base CX0 4 f fd P_barrels_down_to (spDownTo K CR) := by
  refine F.ok sc_barrels_down_to (fun vs H Q E h => ?_) (fun cdv A outer s H vs Q E hr h => ?_)
  · obtain ⟨v, rain, bs, i, b, rfl, _⟩ := h
    rfl
  · obtain ⟨v, rain, bs, i, b, rfl, hr0, hi, hnd, hb, k⟩ := h
    obtain ⟨a, dx, ra, ba, rfl, h1, h2, h3⟩ := id hr0
    refine ⟨_, (pss_one (ps_ret (pe_slice sl_tupS (pe_propF c_Row_barrels (hr.mono (by decide)) (pv 0) rfl) po_none (po_some (pe_op op_add (pe_callF c_place_of (hr.mono (by decide)) (by rfl) (pa_cons (pv 0) (pa_cons (pv 1) pa_nil))) pe_int))))), ?_⟩
    refine ⟨_, rfl, a, dx, _, rfl, h1, _, rain, bs, rfl, hr0, fun ba' hba => ?_⟩
    refine ⟨_, rfl, _, rfl, _, rain, bs, i, b, rfl, hr0, hi, hnd, hb, fun H1 s1 => ⟨_, _, rfl, rfl, _, rfl, ?_⟩⟩
    obtain ⟨vs, hv1, hv2, hv3⟩ := hba
    have hil := (List.getElem?_eq_some_iff.mp hi).1
    have ec : cutV vs none (some ((i : Int) + 1)) = vs.take (i + 1) := by
      have : (i : Int) + 1 = ((i + 1 : Nat) : Int) := by omega
      rw [this]
      exact cutV_to (by omega)
    refine ⟨ba', _, rfl, same_t s1 hv1, fun q H2 s2 hq => ?_⟩
    rw [ec] at hq
    exact k q H2 (s1.trans s2) (BarsAt.take (vs := vs) hq hv2 fun i v b hv hb => (hv3 i v b hv hb).mono (s1.trans s2))
end
end Bk
set_option Elab.async false
set_option maxRecDepth 100000
set_option maxHeartbeats 1000000
namespace Bk
open PySem L2
theorem dp_ints {K : PySem.W.Frag} {H : Hp} : ∀ l : List Int, DpAll K H (l.map V.int) (l.map PyData.int)
  | [] => .nil
  | a :: r => .cons (.int a) (dp_ints r)
theorem ints_lay : ∀ l : List Int, PyData.canLay0 (.tuple (l.map PyData.int)) = true := by
  intro l
  show PyData.canLayAll0 (l.map PyData.int) = true
  induction l with
  | nil => rfl
  | cons a r ih =>
    show (PyData.canLay0 (.int a) && PyData.canLayAll0 (r.map PyData.int)) = true
    rw [ih]
    rfl
theorem ints_shaped (l : List Int) : SeqAt.shaped (.tuple (l.map PyData.int)) = true := by
  have hd : PyData.depth (.tuple (l.map PyData.int)) ≤ 64 := by
    show PyData.depthAll (l.map PyData.int) + 1 ≤ 64
    have : PyData.depthAll (l.map PyData.int) ≤ 1 := by
      induction l with
      | nil => exact Nat.zero_le _
      | cons a r ih =>
        show max (PyData.depth (.int a)) (PyData.depthAll (r.map PyData.int)) ≤ 1
        have h1 : PyData.depth (.int a) ≤ 1 := by first | exact Nat.le_refl _ | exact Nat.zero_le _
        omega
    omega
  exact Bool.and_eq_true_iff.mpr ⟨ints_lay l, decide_eq_true hd⟩
theorem cut_ints {l : List Int} {k : Nat} (h : k ≤ l.length) : cutV (l.map V.int) none (some (k : Int)) = (l.take k).map V.int := by
  rw [cutV_to (by rw [List.length_map]; exact h), List.map_take]
theorem atI_neg1 {xs : List V} {v : V} (h : xs[xs.length - 1]? = some v) (hl : 0 < xs.length) : atI xs (-1) = some v := by
  have ei : ixN xs.length (-1) = some (xs.length - 1) := by
    unfold ixN
    rw [if_neg (by omega), if_pos (by omega)]
    congr 1
    omega
  unfold atI
  rw [ei]
  exact h
section
variable {P : Program} {w : World} {K : PySem.W.Frag} {mg : Str → Option Value} {base : Heap} {CP CR : Addr}
def spRowAdd (K : PySem.W.Frag) (CR : Addr) : Sp := fun vs H Q _ => ∃ (v1 v2 : V) (rain : List Int) (bs cs : List Bar), vs = [v1, v2] ∧ RowAt K CR H v1 rain bs ∧ RowAt K CR H v2 rain cs ∧ RowOk rain (bs ++ cs) ∧ 1 ≤ bs.length ∧ 1 ≤ cs.length ∧ ((bs ++ cs).map Bar.name).Nodup ∧ ∀ v H', Same H H' → RowAt K CR H' v rain (bs ++ cs) → Q v H'
theorem ok_row_add {f : Addr} {fd : FuncData} (F : Fun K "__add__" "Row.__add__" s_Row_add f fd) (T : Txt K mg CP CR) (c_Row_rain : CalleeP P w K mg base CR "rain" 1 (spRowRain K CR)) (c_Row_barrels : CalleeP P w K mg base CR "barrels" 1 (spRowBarrels K CR)) (c_Row__init : MakerR P w K mg base "Row" CR 4 (spRowInit K CR)) :
    FnOk P w K mg base CX0 6 f fd P_Row_add (spRowAdd K CR) := by
  refine F.ok sc_Row_add (fun vs H Q E h => ?_) (fun cdv A outer s H vs Q E hr h => ?_)
  · obtain ⟨v1, v2, rain, bs, cs, rfl, _⟩ := h
    rfl
  · obtain ⟨v1, v2, rain, bs, cs, rfl, hr1, hr2, ok, hb1, hc1, hnd, k⟩ := h
    obtain ⟨a, dx, ra, ba, rfl, h1, h2, h3⟩ := id hr1
    obtain ⟨a2, dx2, ra2, ba2, rfl, g1, g2, g3⟩ := id hr2
    refine ⟨_, (pss_cons (ps_if (pt_cmpR (op_neD hr.units) (pe_fld (pv 0) rfl) (pe_propF c_Row_rain (hr.mono (by decide)) (pv 1) rfl) (nomark _))
        (pss_one ps_never)
        pss_nil)
      (pss_cons (ps_set (i := 2) sc_Row_add.nd rfl (.inl rfl) (pe_op op_catT (pe_fld (pv 0) rfl) (pe_propF c_Row_barrels (hr.mono (by decide)) (pv 1) rfl)))
      (pss_one (ps_ret (pe_makeFS c_Row__init (hr.mono (by decide)) (by rfl) (pa_cons (pe_fld (pv 0) rfl) (StX.pa_star (pv 2) pa_nil))))))), ?_⟩
    refine ⟨_, rfl, a, CR, dx, _, .ref ra, rfl, h1, T.cl_Row, T.na_Row_rain, rfl, _, rfl, a2, dx2, _, rfl, g1, _, rain, cs, rfl, hr2, fun r3 h5 => ?_⟩
    refine ⟨_, _, .tup h2 (dp_ints rain), .tup h5 (dp_ints rain), ints_shaped _, ints_shaped _, ?_⟩
    rw [SeqAt.eqv_refl _ (ints_lay rain)]
    refine ⟨_, rfl, iteBF rfl ?_⟩
    obtain ⟨vs, hv1, hv2, hv3⟩ := id h3
    refine ⟨_, rfl, a, CR, dx, _, .ref ba, rfl, h1, T.cl_Row, T.na_Row_barrels, rfl, _, rfl, a2, dx2, _, rfl, g1, _, rain, cs, rfl, hr2, fun b3 h6 => ?_⟩
    obtain ⟨ws, hw1, hw2, hw3⟩ := h6
    have hcnt := ok.cnt
    rw [List.length_append] at hcnt
    refine ⟨ba, b3, vs, ws, rfl, rfl, hv1, hw1, (by intro e; rw [e] at hv2; simp at hv2; omega), (by rw [hv2, hw2]; show _ ≤ 16777216; omega), fun e => (by rw [e] at hw2; simp at hw2; omega), fun _ p np => ?_⟩
    have s1 := same_new (o := .tup (vs ++ ws)) np
    refine ⟨_, rfl, a, CR, dx, _, .ref ra, rfl, s1 _ _ h1, T.cl_Row, T.na_Row_rain, rfl, _, rfl, p, _, rfl, .inl (.inl (.inl upd_same)), ?_⟩
    intro x dx' nx ndx nex
    have s2 := (same_new ndx (o := .own x)).trans (same_new (o := .ins CR dx' []) (by rw [upd_ne (Ne.symm nex)]; exact nx))
    have s3 := s1.trans s2
    refine ⟨x, dx', ra, rain, bs ++ cs, _, by rw [List.append_nil], upd_same, same_t s3 h2, by rw [List.length_append, List.length_append, hv2, hw2], fun i v b hv hb => ?_, ok, by rw [List.length_append]; omega, hnd, fun H' kp hrow => ⟨rfl, k _ H' (fun b o e => kp _ _ (s3 _ _ e) (ne_of_none (s1 _ _ e) nx)) hrow⟩⟩
    by_cases hi : i < vs.length
    · rw [List.getElem?_append_left hi] at hv
      rw [List.getElem?_append_left (by omega)] at hb
      exact (hv3 i v b hv hb).mono s3
    · rw [List.getElem?_append_right (by omega)] at hv
      rw [List.getElem?_append_right (by omega), ← hv2] at hb
      exact (hw3 _ v b hv hb).mono s3
/-! ### the level of a barrel after a tick -/
def spCall (K : PySem.W.Frag) (CR : Addr) : Sp := fun vs H Q _ => ∃ (v : V) (rain : List Int) (bs : List Bar) (i t : Nat) (b : Bar), vs = [v, .str b.name, .int t] ∧ RowAt K CR H v rain bs ∧ RowOk rain bs ∧ bs[i]? = some b ∧ (bs.map Bar.name).Nodup ∧ t ≤ 1000000000000000000 ∧ ∀ H', Same H H' → Q (.int (colAt rain bs i t).lv) H'
theorem ok_row_call {f : Addr} {fd : FuncData} (F : Fun K "__call__" "Row.__call__" s_Row_call f fd) (T : Txt K mg CP CR) (c_barrels_down_to : Callee P w K mg base "barrels_down_to" 4 (spDownTo K CR)) (c_check_number : Callee P w K mg base "check_number" 2 spCheckNumber)
    (c_walk : Callee P w K mg base "walk" 6 (spWalk K CP)) (c_pass_ticks : Callee P w K mg base "pass_ticks" 4 (spPassTicks K CP)) : FnOk P w K mg base CX0 7 f fd P_Row_call (spCall K CR) := by
  refine F.ok sc_Row_call (fun vs H Q E h => ?_) (fun cdv A outer s H vs Q E hr h => ?_)
  · obtain ⟨v, rain, bs, i, t, b, rfl, _⟩ := h
    rfl
  · obtain ⟨v, rain, bs, i, t, b, rfl, hr0, ok, hi, hnd, ht, k⟩ := h
    obtain ⟨a, dx, ra, ba, rfl, h1, h2, h3⟩ := id hr0
    have hn := ok.len
    have hn2 := ok.len2
    have hil := (List.getElem?_eq_some_iff.mp hi).1
    refine ⟨_, (pss_cons (ps_set (i := 3) sc_Row_call.nd rfl (.inl rfl) (pe_callF c_barrels_down_to (hr.mono (by decide)) (by rfl) (pa_cons (pv 0) (pa_cons (pv 1) pa_nil))))
      (pss_cons (ps_expr (pe_callF c_check_number (hr.mono (by decide)) (by rfl) (pa_cons (pv 2) (pa_cons pe_int (pa_cons (pe_globI (by rfl) T.g_LAST_TICK) pa_nil)))))
      (pss_cons (ps_asg (pe_callB call_divmod (by rfl) T.n_divmod bt_divmod (pa_cons (pv 2) (pa_cons (pe_callB call_len_seq (by rfl) T.n_len bt_len (pa_cons (pe_fld (pv 0) rfl) pa_nil)) pa_nil))) (pg_tup rfl (pgs_cons (pg_name (i := 4) sc_Row_call.nd rfl (.inl rfl)) (pgs_cons (pg_name (i := 5) sc_Row_call.nd rfl (.inl rfl)) pgs_nil))))
      (pss_cons (ps_asg (pe_callF c_walk (hr.mono (by decide)) (by rfl) (pa_cons (pe_fld (pv 0) rfl) (pa_cons (pv 3) (pa_cons (pv 4) pa_nil)))) (pg_tup rfl (pgs_cons (pg_name (i := 6) sc_Row_call.nd rfl (.inl rfl)) (pgs_cons (pg_name (i := 7) sc_Row_call.nd rfl (.inl rfl)) pgs_nil))))
      (pss_cons (ps_set (i := 8) sc_Row_call.nd rfl (.inl rfl) (pe_callF c_pass_ticks (hr.mono (by decide)) (by rfl) (pa_cons (pe_slice sl_tupS (pe_fld (pv 0) rfl) po_none (po_some (pe_op op_add (pv 5) pe_int))) (pa_cons (pv 3) (pa_cons (pv 6) pa_nil)))))
      (pss_one (ps_ret (pe_ix ix_list (pe_fld (pe_ix ix_list (pv 8) (pe_un un_neg pe_int) (fun _ _ => rfl)) rfl) (pe_un un_neg pe_int) (fun _ _ => rfl))))))))), ?_⟩
    refine ⟨_, rfl, _, rfl, _, rain, bs, i, b, rfl, hr0, hi, hnd, by have := ok.cnt; omega, fun p H1 s1 hp => ?_⟩
    refine ⟨_, rfl, _, _, _, rfl, by omega, by omega, ?_⟩
    refine ⟨_, rfl, _, rfl, a, CR, dx, _, .ref ra, rfl, s1 _ _ h1, T.cl_Row, T.na_Row_rain, rfl, ra, _, rfl, .inr (same_t s1 h2), _, _, rfl, ⟨by rw [List.length_map]; omega, by rw [List.length_map]; omega⟩, fun dp ndp => ?_⟩
    have e1 : (t : Int) / ((rain.map V.int).length : Nat) = ((t / rain.length : Nat) : Int) := by rw [List.length_map]; exact (Int.natCast_ediv t rain.length).symm
    have e2 : (t : Int) % ((rain.map V.int).length : Nat) = ((t % rain.length : Nat) : Int) := by rw [List.length_map]; exact (Int.natCast_emod t rain.length).symm
    rw [e1, e2]
    have hjn := Nat.mod_lt t hn
    have htr : t / rain.length * rain.length + t % rain.length = t := by rw [Nat.mul_comm]; exact Nat.div_add_mod t rain.length
    have hrt : t / rain.length ≤ t := Nat.div_le_self _ _
    generalize t / rain.length = r at htr hrt ⊢
    generalize t % rain.length = j at htr hjn ⊢
    have s2 := s1.trans (same_new (o := .tup [.int (r : Int), .int (j : Int)]) ndp)
    refine ⟨dp, _, rfl, .inl (.inl upd_same), rfl, _, _, rfl, _, _, rfl, rfl, ?_⟩
    have okt := ok.take (i + 1)
    have hlt : (bs.take (i + 1)).length = i + 1 := by rw [List.length_take]; omega
    refine ⟨_, rfl, a, CR, dx, _, .ref ra, rfl, s2 _ _ h1, T.cl_Row, T.na_Row_rain, rfl, _, rfl, _, rfl, ra, p, rain, bs.take (i + 1), r, rfl, same_t s2 h2, hp.mono (same_new ndp), okt, by omega, by unfold forever; omega, fun la sa tt H3 L s3 f1 f2 hla hsa nls hso htt => ?_⟩
    have s4 := s2.trans s3
    refine ⟨tt, _, rfl, .inl (.inl htt), rfl, _, _, rfl, _, _, rfl, rfl, ?_⟩
    refine ⟨_, rfl, a, CR, dx, _, .ref ra, rfl, s4 _ _ h1, T.cl_Row, T.na_Row_rain, rfl, _, rfl, _, _, rfl, rfl, _, rfl, ra, _, rfl, same_t s4 h2, fun q H4 s5 hq => ?_⟩
    have ej : (j : Int) + 1 = ((j + 1 : Nat) : Int) := by omega
    rw [ej, cut_ints (by omega)] at hq
    have s6 := s4.trans s5
    refine ⟨_, rfl, _, rfl, q, p, la, rain.take (j + 1), bs.take (i + 1), _, rfl, hq, (hp.mono (same_new ndp)).mono (s3.trans s5), s5 _ _ hla, by rw [List.length_take]; omega, by have := ok.cnt; omega, fun x hx => ok.fall x (List.mem_of_mem_take hx), fun pl H5 s7 npl hps => ?_⟩
    rw [passTicks_cols (k := j + 1) (by omega) (Nat.mul_mod_left _ _) fun b hb => (okt.bars b hb).2.1] at hps
    obtain ⟨ws, hw1, hw2, hw3⟩ := hps.mono rmS_same
    have hwl : ws.length = i + 1 := by rw [hw2, pasAt_length]; omega
    obtain ⟨vl, hvl⟩ : ∃ vl, ws[i]? = some vl := ⟨_, List.getElem?_eq_getElem (by omega)⟩
    have hwi : ws[ws.length - 1]? = some vl := by rw [hwl]; exact hvl
    have hbi : (bs.take (i + 1))[i]? = some b := by rw [List.getElem?_take_of_lt (by omega)]; exact hi
    have hpa := hw3 i _ _ hvl (pasAt_get hbi)
    obtain ⟨pa, dx', l1, l2, l3, l4, rfl, g0, g1, _⟩ := hpa
    refine ⟨_, rfl, _, rfl, pl, _, _, _, rfl, rfl, SqL.of hw1, atI_neg1 hwi (by omega), pa, CP, dx', _, .ref l1, rfl, g0, T.cl_Passage, T.na_Passage_after, rfl, _, rfl, l1, _, _, .int (colAt rain bs i t).lv, rfl, rfl, SqL.of g1, atI_neg1 ?_ (by simp [Pas.after]), k H5 (s6.trans s7)⟩
    unfold Pas.after
    simp only [List.length_map, List.length_range, Nat.add_sub_cancel]
    rw [List.getElem?_map, List.getElem?_map, List.getElem?_map, List.getElem?_range (by omega)]
    simp only [Option.map_some]
    rw [colAt_take (by omega), htr]
end
end Bk
set_option Elab.async false
set_option maxRecDepth 100000
set_option maxHeartbeats 1000000
namespace Bk
open PySem L2
/-! ### totals, lost -/
def sums (rain : List Int) (bs : List Bar) (i T : Nat) : List V := [.int (tot rain bs i T4.dr T), .int (tot rain bs i T4.ms T), .int (tot rain bs i T4.ov T)]
/-- the dict of sums of the first n barrels stands at D -/
def TotAt (H : Hp) (D : Addr) (rain : List Int) (bs : List Bar) (T n : Nat) : Prop := ∃ kvs : List (Key × V), H D = some (.dK kvs) ∧ kvs.length = n ∧ ∀ (i : Nat) (b : Bar), i < n → bs[i]? = some b → ∃ p : Addr, kvs[i]? = some (.inr b.name, .ref p) ∧ rm D H p = some (.tup (sums rain bs i T))
theorem TotAt.mono {H H' : Hp} {D : Addr} {rain : List Int} {bs : List Bar} {T n : Nat} (e : Same H H') (h : TotAt H D rain bs T n) : TotAt H' D rain bs T n := by
  obtain ⟨kvs, h1, h2, h3⟩ := h
  refine ⟨kvs, e _ _ h1, h2, fun i b hi hb => ?_⟩
  obtain ⟨p, e1, e2⟩ := h3 i b hi hb
  exact ⟨p, e1, rm_mono e _ _ e2⟩
theorem tot_get {H : Hp} {D : Addr} {rain : List Int} {bs : List Bar} {T n i : Nat} {b : Bar} (h : TotAt H D rain bs T n) (hi : i < n) (hn : n = bs.length) (hb : bs[i]? = some b) (hnd : (bs.map Bar.name).Nodup) : ∃ p kvs, H D = some (.dK kvs) ∧ valV kvs (.inr b.name) = some (.ref p) ∧ H p = some (.tup (sums rain bs i T)) := by
  obtain ⟨kvs, h1, h2, h3⟩ := h
  obtain ⟨p, e1, e2⟩ := h3 i b hi hb
  refine ⟨p, kvs, h1, ?_, rm_same _ _ e2⟩
  unfold valV
  have : kvs.find? (fun kv => decide (kv.1 = Sum.inr b.name)) = some (.inr b.name, .ref p) := by
    rw [List.find?_eq_some_iff_getElem]
    refine ⟨by simp, i, (List.getElem?_eq_some_iff.mp e1).1, (List.getElem?_eq_some_iff.mp e1).2, fun j hj => ?_⟩
    have hbj : bs[j]? = some bs[j] := List.getElem?_eq_getElem (by omega)
    obtain ⟨p', q1, _⟩ := h3 j _ (by omega) hbj
    have q2 := (List.getElem?_eq_some_iff.mp q1).2
    rw [q2]
    have hne : bs[j].name ≠ b.name := by
      intro e
      have := nd_ix hnd (nth_name hbj) (by rw [e]; exact nth_name hb)
      omega
    simpa using hne
  rw [this]
  rfl
end Bk
set_option Elab.async false
set_option maxRecDepth 100000
set_option maxHeartbeats 1000000
namespace Bk
open PySem L2
/-- the state of the draws stands at st; the script at a -/
def St4 (H : Hp) (st a : Addr) : Prop := ∃ (i m r : Int), H st = some (.lst [.ref a, .int i, .int m, .int r]) ∧ 0 ≤ i ∧ 0 ≤ m ∧ m < 2147483647
def DrawSt (K : PySem.W.Frag) (H : Hp) (st a : Addr) (ns : List Int) : Prop := St4 H st a ∧ SqL K H a (ns.map V.int)
theorem St4.mono {H H' : Hp} {st a : Addr} (e : Same H H') (h : St4 H st a) : St4 H' st a := by
  obtain ⟨i, m, r, h1, h2⟩ := h
  exact ⟨i, m, r, e _ _ h1, h2⟩
theorem seq_kp {K : PySem.W.Frag} {H H' : Hp} {st a x : Addr} {ns : List Int} {r : List V} (h : SqL K H a (ns.map V.int)) (hs : H st = some (.lst (.ref x :: r))) (kp : Kp st H H') : SqL K H' a (ns.map V.int) := by
  rcases h with (h | ⟨u, h⟩) | h
  · exact .inl (.inl (kp _ _ h (ne_of h hs (by
      intro e
      cases ns with
      | nil => cases e
      | cons n ns => cases HO.lst.inj e))))
  · exact .inl (.inr ⟨u, kp _ _ h (ne_of h hs (by intro e; cases e))⟩)
  · exact .inr h
theorem DrawSt.kp {K : PySem.W.Frag} {H H' : Hp} {st a : Addr} {ns : List Int} (h : DrawSt K H st a ns) (kp : Kp st H H') (h4 : St4 H' st a) : DrawSt K H' st a ns := by
  obtain ⟨⟨i, m, r, h1, _⟩, h2⟩ := h
  exact ⟨h4, seq_kp h2 h1 kp⟩
theorem DrawSt.mono {K : PySem.W.Frag} {H H' : Hp} {st a : Addr} {ns : List Int} (e : Same H H') (h : DrawSt K H st a ns) : DrawSt K H' st a ns := ⟨h.1.mono e, e.seq h.2⟩
theorem seq_st {K : PySem.W.Frag} {H : Hp} {st a x : Addr} {ns : List Int} {r : List V} {o : HO} (h : SqL K H a (ns.map V.int)) (hs : H st = some (.lst (.ref x :: r))) : SqL K (upd H st o) a (ns.map V.int) := seq_kp h hs (Kp.upd fun _ _ e _ => e)
theorem Kp.refl (st : Addr) (H : Hp) : Kp st H H := fun _ _ e _ => e
theorem Kp.trans {st : Addr} {H H1 H2 : Hp} (a : Kp st H H1) (b : Kp st H1 H2) : Kp st H H2 := fun c o e n => b c o (a c o e n) n
theorem Kp.of {st : Addr} {H H' : Hp} (e : Same H H') : Kp st H H' := fun c o h _ => e c o h
theorem Kp.thn {st : Addr} {H H1 H2 : Hp} (a : Kp st H H1) (b : Same H1 H2) : Kp st H H2 := fun c o e n => b c o (a c o e n)
theorem St4.is {H : Hp} {st a : Addr} (h : St4 H st a) : ∃ xs, H st = some (.lst (.ref a :: xs)) := by
  obtain ⟨i, m, r, h1, _⟩ := h
  exact ⟨_, h1⟩
theorem fmod_pos {z n : Int} (h : 1 ≤ n) : 0 ≤ z.fmod n ∧ z.fmod n < n := by
  rw [Int.fmod_eq_emod_of_nonneg _ (by omega)]
  exact ⟨Int.emod_nonneg _ (by omega), Int.emod_lt_of_pos _ (by omega)⟩
end Bk
set_option Elab.async false
set_option maxRecDepth 100000
set_option maxHeartbeats 1000000
namespace Bk
open PySem L2
/-! ### how many barrels, one of them, equal rows -/
def dBar (b : Bar) : PyData := .tuple [.str b.name, .int b.cap, .int b.roof, .tuple (b.draws.map PyData.int)]
theorem dp_bar {K : PySem.W.Frag} {H : Hp} {v : V} {b : Bar} (h : BarAt K H v b) : Dp K H v (dBar b) := by
  obtain ⟨t, d, rfl, h1, h2⟩ := h
  exact .tup h1 (.cons (.str _) (.cons (.int _) (.cons (.int _) (.cons (.tup h2 (dp_ints _)) .nil))))
theorem dp_bars {K : PySem.W.Frag} {H : Hp} : ∀ (vs : List V) (bs : List Bar), vs.length = bs.length → (∀ (i : Nat) (v : V) (b : Bar), vs[i]? = some v → bs[i]? = some b → BarAt K H v b) → DpAll K H vs (bs.map dBar)
  | [], [], _, _ => .nil
  | v :: vs, b :: bs, hl, h => .cons (dp_bar (h 0 v b rfl rfl)) (dp_bars vs bs (Nat.succ.inj hl) fun i v b hv hb => h (i + 1) v b hv hb)
  | [], _ :: _, hl, _ => by cases hl
  | _ :: _, [], hl, _ => by cases hl
theorem lay_all {ds : List PyData} (h : ∀ d ∈ ds, PyData.canLay0 d = true) : PyData.canLay0 (.tuple ds) = true := by
  show PyData.canLayAll0 ds = true
  induction ds with
  | nil => rfl
  | cons a r ih =>
    show (PyData.canLay0 a && PyData.canLayAll0 r) = true
    rw [h a List.mem_cons_self, ih fun d hd => h d (List.mem_cons_of_mem _ hd)]
    rfl
theorem depth_all {ds : List PyData} {n : Nat} (h : ∀ d ∈ ds, PyData.depth d ≤ n) : PyData.depth (.tuple ds) ≤ n + 1 := by
  show PyData.depthAll ds + 1 ≤ n + 1
  have : PyData.depthAll ds ≤ n := by
    induction ds with
    | nil => exact Nat.zero_le _
    | cons a r ih =>
      show max (PyData.depth a) (PyData.depthAll r) ≤ n
      have h1 := h a List.mem_cons_self
      have h2 := ih fun d hd => h d (List.mem_cons_of_mem _ hd)
      omega
  omega
theorem depth_int (i : Int) : PyData.depth (.int i) ≤ 1 := by first | exact Nat.le_refl _ | exact Nat.zero_le _
theorem depth_str (i : Str) : PyData.depth (.str i) ≤ 1 := by first | exact Nat.le_refl _ | exact Nat.zero_le _
theorem ints_depth (l : List Int) : PyData.depth (.tuple (l.map PyData.int)) ≤ 2 := depth_all fun d hd => by
  obtain ⟨i, _, rfl⟩ := List.mem_map.mp hd
  exact depth_int i
theorem name_strOk {z : Str} (h : nameOk z = true) : PyData.strOk z = true := by
  have h2 := (Bool.and_eq_true_iff.mp h).2
  rw [List.all_eq_true] at h2
  unfold PyData.strOk
  rw [Array.all_eq_true_iff_forall_mem]
  intro c hc
  have := h2 c (Array.mem_toList_iff.mpr hc)
  unfold chOk at this
  have h3 := of_decide_eq_true (Bool.and_eq_true_iff.mp this).2
  exact decide_eq_true (by omega)
theorem bar_lay {b : Bar} (h : nameOk b.name = true) : PyData.canLay0 (dBar b) = true := lay_all fun d hd => by
  simp only [List.mem_cons, List.not_mem_nil, or_false] at hd
  rcases hd with rfl | rfl | rfl | rfl
  · exact name_strOk h
  · rfl
  · rfl
  · exact ints_lay _
theorem bar_depth (b : Bar) : PyData.depth (dBar b) ≤ 3 := depth_all fun d hd => by
  simp only [List.mem_cons, List.not_mem_nil, or_false] at hd
  rcases hd with rfl | rfl | rfl | rfl
  · exact Nat.le_trans (depth_str _) (by decide)
  · exact Nat.le_trans (depth_int _) (by decide)
  · exact Nat.le_trans (depth_int _) (by decide)
  · exact ints_depth _
theorem bars_lay {bs : List Bar} (h : ∀ b ∈ bs, nameOk b.name = true) : PyData.canLay0 (.tuple (bs.map dBar)) = true := lay_all fun d hd => by
  obtain ⟨b, hb, rfl⟩ := List.mem_map.mp hd
  exact bar_lay (h b hb)
theorem bars_shaped {bs : List Bar} (h : ∀ b ∈ bs, nameOk b.name = true) : SeqAt.shaped (.tuple (bs.map dBar)) = true := by
  refine Bool.and_eq_true_iff.mpr ⟨bars_lay h, decide_eq_true ?_⟩
  have : PyData.depth (.tuple (bs.map dBar)) ≤ 4 := depth_all fun d hd => by
    obtain ⟨b, _, rfl⟩ := List.mem_map.mp hd
    exact bar_depth b
  omega
section
variable {P : Program} {w : World} {K : PySem.W.Frag} {mg : Str → Option Value} {base : Heap} {CP CR : Addr}
def spRowLen (K : PySem.W.Frag) (CR : Addr) : Sp := fun vs H Q _ => ∃ (v : V) (rain : List Int) (bs : List Bar), vs = [v] ∧ RowAt K CR H v rain bs ∧ Q (.int (bs.length : Nat)) H
theorem ok_row_len {f : Addr} {fd : FuncData} (F : Fun K "__len__" "Row.__len__" s_Row_len f fd) (T : Txt K mg CP CR) : FnOk P w K mg base CX0 1 f fd P_Row_len (spRowLen K CR) := by
  refine F.ok sc_Row_len (fun vs H Q E h => ?_) (fun cdv A outer s H vs Q E hr h => ?_)
  · obtain ⟨v, rain, bs, rfl, _⟩ := h
    rfl
  · obtain ⟨v, rain, bs, rfl, ⟨a, dx, ra, ba, rfl, h1, h2, h3⟩, k⟩ := h
    obtain ⟨vs, hv1, hv2, hv3⟩ := h3
    refine ⟨_, (pss_one (ps_ret (pe_callB call_len_seq (by rfl) T.n_len bt_len (pa_cons (pe_fld (pv 0) rfl) pa_nil)))), ?_⟩
    refine ⟨_, rfl, a, CR, dx, _, .ref ba, rfl, h1, T.cl_Row, T.na_Row_barrels, rfl, ba, _, rfl, .inr hv1, ?_⟩
    rw [hv2]
    exact k
def spRowItem (K : PySem.W.Frag) (CR : Addr) : Sp := fun vs H Q _ => ∃ (v : V) (rain : List Int) (bs : List Bar) (i : Nat) (b : Bar), vs = [v, .str b.name] ∧ RowAt K CR H v rain bs ∧ bs[i]? = some b ∧ (bs.map Bar.name).Nodup ∧ bs.length ≤ 1000 ∧ ∀ p d H', Same H H' → SqT K H' p [.int b.cap, .int b.roof, .ref d] → SqT K H' d (b.draws.map V.int) → Q (.ref p) H'
theorem ok_row_item {f : Addr} {fd : FuncData} (F : Fun K "__getitem__" "Row.__getitem__" s_Row_getitem f fd) (T : Txt K mg CP CR) (c_place_of : Callee P w K mg base "place_of" 3 (spPlaceOf K CR)) : FnOk P w K mg base CX0 4 f fd P_Row_getitem (spRowItem K CR) := by
  refine F.ok sc_Row_getitem (fun vs H Q E h => ?_) (fun cdv A outer s H vs Q E hr h => ?_)
  · obtain ⟨v, rain, bs, i, b, rfl, _⟩ := h
    rfl
  · obtain ⟨v, rain, bs, i, b, rfl, hr0, hi, hnd, hb, k⟩ := h
    obtain ⟨a, dx, ra, ba, rfl, h1, h2, h3⟩ := id hr0
    obtain ⟨vs, hv1, hv2, hv3⟩ := h3
    have hil := (List.getElem?_eq_some_iff.mp hi).1
    refine ⟨_, (pss_cons (ps_set (i := 2) sc_Row_getitem.nd rfl (.inl rfl) (pe_ix ix_tup (pe_fld (pv 0) rfl) (pe_callF c_place_of (hr.mono (by decide)) (by rfl) (pa_cons (pv 0) (pa_cons (pv 1) pa_nil))) (fun _ _ => rfl)))
      (pss_one (ps_ret (pe_slice sl_tupS (pv 2) (po_some pe_int) po_none)))), ?_⟩
    have hvi : vs[i]? = some (vs[i]'(by omega)) := List.getElem?_eq_getElem (by omega)
    obtain ⟨t, d, e, ht, hd⟩ := hv3 i _ _ hvi hi
    rw [e] at hvi
    refine ⟨_, rfl, a, CR, dx, _, .ref ba, rfl, h1, T.cl_Row, T.na_Row_barrels, rfl, _, rfl, _, rfl, _, rain, bs, i, b, rfl, hr0, hi, hnd, hb, fun H1 s1 => ?_⟩
    refine ⟨ba, vs, _, .ref t, rfl, rfl, same_t s1 hv1, at_of rfl hvi, ?_⟩
    refine ⟨_, rfl, _, rfl, t, _, rfl, same_t s1 ht, fun p H2 s2 hp => ?_⟩
    exact k p d H2 (s1.trans s2) hp (same_t (s1.trans s2) hd)
def spRowEq (K : PySem.W.Frag) (CR : Addr) : Sp := fun vs H Q _ => ∃ (v1 v2 : V) (rain : List Int) (bs : List Bar), vs = [v1, v2] ∧ RowAt K CR H v1 rain bs ∧ RowAt K CR H v2 rain bs ∧ RowOk rain bs ∧ Q (.bl true) H
theorem ok_row_eq {f : Addr} {fd : FuncData} (F : Fun K "__eq__" "Row.__eq__" s_Row_eq f fd) (T : Txt K mg CP CR) (hIns_Row : C8.InsC K CR) : FnOk P w K mg base CX0 1 f fd P_Row_eq (spRowEq K CR) := by
  refine F.ok sc_Row_eq (fun vs H Q E h => ?_) (fun cdv A outer s H vs Q E hr h => ?_)
  · obtain ⟨v1, v2, rain, bs, rfl, _⟩ := h
    rfl
  · obtain ⟨v1, v2, rain, bs, rfl, ⟨a, dx, ra, ba, rfl, h1, h2, h3⟩, ⟨a', dx', ra', ba', rfl, g1, g2, g3⟩, ok, k⟩ := h
    have hnm : ∀ b ∈ bs, nameOk b.name = true := fun b hb => (ok.bars b hb).1
    obtain ⟨vs, hv1, hv2, hv3⟩ := h3
    obtain ⟨ws, hw1, hw2, hw3⟩ := g3
    refine ⟨_, (pss_one (ps_ret (pe_and (pe_callB (C8.call_isC hIns_Row) (by rfl) T.n_isinstance bt_isinstance (pa_cons (pv 1) (pa_cons (pe_glob (v := .ref CR) (by rfl) T.g_Row rfl) pa_nil))) (pe_and (pe_cmpR (op_eqD hr.units) (pe_fld (pv 0) rfl) (pe_fld (pv 1) rfl) (nomark _)) (pe_one (pe_cmpR (op_eqD hr.units) (pe_fld (pv 0) rfl) (pe_fld (pv 1) rfl) (nomark _))))))), ?_⟩
    refine ⟨_, rfl, _, dx', _, rfl, g1, _, rfl, iteT ?_⟩
    refine ⟨_, rfl, a, CR, dx, _, .ref ra, rfl, h1, T.cl_Row, T.na_Row_rain, rfl, _, rfl, a', CR, dx', _, .ref ra', rfl, g1, T.cl_Row, T.na_Row_rain, rfl, ?_⟩
    refine ⟨_, _, .tup h2 (dp_ints rain), .tup g2 (dp_ints rain), ints_shaped _, ints_shaped _, ?_⟩
    rw [SeqAt.eqv_refl _ (ints_lay rain)]
    refine ⟨_, rfl, iteT ?_⟩
    refine ⟨_, rfl, a, CR, dx, _, .ref ba, rfl, h1, T.cl_Row, T.na_Row_barrels, rfl, _, rfl, a', CR, dx', _, .ref ba', rfl, g1, T.cl_Row, T.na_Row_barrels, rfl, ?_⟩
    refine ⟨_, _, .tup hv1 (dp_bars vs bs hv2 hv3), .tup hw1 (dp_bars ws bs hw2 hw3), bars_shaped hnm, bars_shaped hnm, ?_⟩
    rw [SeqAt.eqv_refl _ (bars_lay hnm)]
    exact k
end
end Bk
set_option Elab.async false
set_option maxRecDepth 100000
set_option maxHeartbeats 1000000
namespace Bk
open PySem L2
theorem ints_of {Pz : Int → Prop} : ∀ {ys : List V}, (∀ y ∈ ys, ∃ z, y = V.int z ∧ Pz z) → ∃ zs : List Int, ys = zs.map V.int ∧ zs.length = ys.length ∧ ∀ z ∈ zs, Pz z
  | [], _ => ⟨[], rfl, rfl, fun z h => by cases h⟩
  | y :: r, h => by
    obtain ⟨z, rfl, hz⟩ := h y List.mem_cons_self
    obtain ⟨zs, e, el, hzs⟩ := ints_of (ys := r) fun y m => h y (List.mem_cons_of_mem _ m)
    refine ⟨z :: zs, by rw [e]; rfl, by simp [el], fun x hx => ?_⟩
    rcases List.mem_cons.mp hx with q | q
    · rw [q]; exact hz
    · exact hzs x q
def nm5 : List Str := ["top", "b", "c", "dd", "end"]
/-- a list of barrels stands at a -/
def LBars (K : PySem.W.Frag) (H : Hp) (a : Addr) (bs : List Bar) : Prop := ∃ vs : List V, H a = some (.lst vs) ∧ vs.length = bs.length ∧ ∀ (i : Nat) (v : V) (b : Bar), vs[i]? = some v → bs[i]? = some b → BarAt K H v b
theorem BarAt.keepL {K : PySem.W.Frag} {L : List Addr} {H H' : Hp} {v : V} {b : Bar} (e : KeepL L H H') (n : ∀ b ∈ L, ∃ ys, H b = some (.lst ys)) (h : BarAt K H v b) : BarAt K H' v b := by
  obtain ⟨t, d, e1, h1, h2⟩ := h
  exact ⟨t, d, e1, e.tup n h1, e.tup n h2⟩
theorem Kp.tupL {K : PySem.W.Frag} {a : Addr} {ys : List V} {H H' : Hp} {t : Addr} {xs : List V} (e : Kp a H H') (ha : H a = some (.lst ys)) (h : SqT K H t xs) : SqT K H' t xs := by
  rcases h with (h | ⟨o, h⟩) | h
  · exact .inl (.inl (e _ _ h (ne_of h ha (by intro q; cases q))))
  · exact .inl (.inr ⟨o, e _ _ h (ne_of h ha (by intro q; cases q))⟩)
  · exact .inr h
theorem BarAt.kp {K : PySem.W.Frag} {st : Addr} {ys : List V} {H H' : Hp} {v : V} {b : Bar} (e : Kp st H H') (hs : H st = some (.lst ys)) (h : BarAt K H v b) : BarAt K H' v b := by
  obtain ⟨t, d, e1, h1, h2⟩ := h
  exact ⟨t, d, e1, e.tupL hs h1, e.tupL hs h2⟩
theorem at2 {x y : Int} {z : Int} (h0 : 0 ≤ z) (h1 : z < 2) : ∃ n, (n = x ∨ n = y) ∧ atI [V.int x, V.int y] z = some (.int n) := by
  have : z = 0 ∨ z = 1 := by omega
  rcases this with rfl | rfl
  · exact ⟨x, .inl rfl, rfl⟩
  · exact ⟨y, .inr rfl, rfl⟩
theorem at4 {x y u v : Int} {z : Int} (h0 : 0 ≤ z) (h1 : z < 4) : ∃ n, (n = x ∨ n = y ∨ n = u ∨ n = v) ∧ atI [V.int x, V.int y, V.int u, V.int v] z = some (.int n) := by
  have : z = 0 ∨ z = 1 ∨ z = 2 ∨ z = 3 := by omega
  rcases this with rfl | rfl | rfl | rfl
  · exact ⟨x, .inl rfl, rfl⟩
  · exact ⟨y, .inr (.inl rfl), rfl⟩
  · exact ⟨u, .inr (.inr (.inl rfl)), rfl⟩
  · exact ⟨v, .inr (.inr (.inr rfl)), rfl⟩
theorem nm5_get {i : Nat} (h : i < 5) : ∃ z : Str, nm5[i]? = some z ∧ atI [V.str "top", V.str "b", V.str "c", V.str "dd", V.str "end"] ((0 : Int) + i) = some (.str z) ∧ nameOk z = true := by
  have : i = 0 ∨ i = 1 ∨ i = 2 ∨ i = 3 ∨ i = 4 := by omega
  rcases this with rfl | rfl | rfl | rfl | rfl
  · exact ⟨_, rfl, rfl, by decide +kernel⟩
  · exact ⟨_, rfl, rfl, by decide +kernel⟩
  · exact ⟨_, rfl, rfl, by decide +kernel⟩
  · exact ⟨_, rfl, rfl, by decide +kernel⟩
  · exact ⟨_, rfl, rfl, by decide +kernel⟩
structure PlanOk (most high : Int) (rain : List Int) (bs : List Bar) : Prop where
  row : RowOk rain bs
  pos : 1 ≤ bs.length
  most : (bs.length : Int) ≤ most
  nms : bs.map Bar.name = nm5.take bs.length
  fall : ∀ r ∈ rain, r ≤ high
  len4 : rain.length ≤ 4
  bars : ∀ b ∈ bs, b.cap ≤ 9 * high ∧ b.roof ≤ 2 ∧ ∀ d ∈ b.draws, d ≤ high
theorem nm5_nodup : nm5.Nodup := by decide +kernel
theorem PlanOk.nodup {most high : Int} {rain : List Int} {bs : List Bar} (p : PlanOk most high rain bs) : (bs.map Bar.name).Nodup := by
  rw [p.nms]
  exact (List.take_sublist _ _).nodup nm5_nodup
theorem RowOk.sub {rain : List Int} {bs cs : List Bar} (ok : RowOk rain bs) (h : ∀ b ∈ cs, b ∈ bs) (hl : cs.length ≤ bs.length) : RowOk rain cs := ⟨ok.len, ok.len2, ok.fall, fun b hb => ok.bars b (h b hb), Nat.le_trans hl ok.cnt⟩
end Bk
set_option Elab.async false
set_option maxRecDepth 100000
set_option maxHeartbeats 1000000
namespace Bk
open PySem L2
theorem at3 {z : Int} (h0 : 0 ≤ z) (h1 : z < 3) : ∃ n : Int, (n = 3 ∨ n = 9 ∨ n = 1000000) ∧ atI [V.int 3, V.int 9, V.int 1000000] z = some (.int n) := by
  have : z = 0 ∨ z = 1 ∨ z = 2 := by omega
  rcases this with rfl | rfl | rfl
  · exact ⟨3, .inl rfl, rfl⟩
  · exact ⟨9, .inr (.inl rfl), rfl⟩
  · exact ⟨1000000, .inr (.inr rfl), rfl⟩
theorem BarsAt.kp {K : PySem.W.Frag} {st ba : Addr} {ys : List V} {H H' : Hp} {bs : List Bar} (e : Kp st H H') (hs : H st = some (.lst ys)) (h : BarsAt K H ba bs) : BarsAt K H' ba bs := by
  obtain ⟨vs, h1, h2, h3⟩ := h
  exact ⟨vs, e.tupL hs h1, h2, fun i v b hv hb => (h3 i v b hv hb).kp e hs⟩
theorem RowAt.kp {K : PySem.W.Frag} {CR st : Addr} {ys : List V} {H H' : Hp} {v : V} {rain : List Int} {bs : List Bar} (e : Kp st H H') (hs : H st = some (.lst ys)) (h : RowAt K CR H v rain bs) : RowAt K CR H' v rain bs := by
  obtain ⟨a, dx, ra, ba, e1, h1, h2, h3⟩ := h
  exact ⟨a, dx, ra, ba, e1, e _ _ h1 (ne_of h1 hs (by intro q; cases q)), e.tupL hs h2, h3.kp e hs⟩
theorem LBars.kp {K : PySem.W.Frag} {st bl : Addr} {ys : List V} {H H' : Hp} {bs : List Bar} (e : Kp st H H') (hs : H st = some (.lst ys)) (n : bl ≠ st) (h : LBars K H bl bs) : LBars K H' bl bs := by
  obtain ⟨vs, h1, h2, h3⟩ := h
  exact ⟨vs, e _ _ h1 n, h2, fun i v b hv hb => (h3 i v b hv hb).kp e hs⟩
theorem LBars.mono {K : PySem.W.Frag} {bl : Addr} {H H' : Hp} {bs : List Bar} (e : Same H H') (h : LBars K H bl bs) : LBars K H' bl bs := by
  obtain ⟨vs, h1, h2, h3⟩ := h
  exact ⟨vs, e _ _ h1, h2, fun i v b hv hb => (h3 i v b hv hb).mono e⟩
/-- a list's piece of barrels -/
theorem LBars.drop {K : PySem.W.Frag} {H : Hp} {q : Addr} {vs : List V} {bs : List Bar} {k : Nat} (h : H q = some (.lst (vs.drop k))) (hl : vs.length = bs.length) (hb : ∀ (i : Nat) (v : V) (b : Bar), vs[i]? = some v → bs[i]? = some b → BarAt K H v b) : LBars K H q (bs.drop k) :=
  ⟨_, h, by rw [List.length_drop, List.length_drop, hl], fun i v b hv hb' => hb (k + i) v b (by rw [List.getElem?_drop] at hv; exact hv) (by rw [List.getElem?_drop] at hb'; exact hb')⟩
theorem LBars.take {K : PySem.W.Frag} {H : Hp} {q : Addr} {vs : List V} {bs : List Bar} {k : Nat} (h : H q = some (.lst (vs.take k))) (hl : vs.length = bs.length) (hb : ∀ (i : Nat) (v : V) (b : Bar), vs[i]? = some v → bs[i]? = some b → BarAt K H v b) : LBars K H q (bs.take k) := by
  refine ⟨_, h, by rw [List.length_take, List.length_take, hl], fun i v b hv hb' => ?_⟩
  have hi := (List.getElem?_eq_some_iff.mp hv).1
  rw [List.length_take] at hi
  rw [List.getElem?_take_of_lt (by omega)] at hv hb'
  exact hb i v b hv hb'
theorem RowOk.drop {rain : List Int} {bs : List Bar} (ok : RowOk rain bs) (k : Nat) : RowOk rain (bs.drop k) := ok.sub (fun b hb => List.mem_of_mem_drop hb) (by rw [List.length_drop]; omega)
theorem RowOk.roof {rain : List Int} {bs : List Bar} (ok : RowOk rain bs) : ∀ b ∈ bs, 0 ≤ b.roof := fun b hb => (ok.bars b hb).2.2.2.2.1
theorem St4.ne {H : Hp} {st a b : Addr} {o : HO} (h : St4 H st a) (hb : H b = some o) (n : ∀ xs, o ≠ .lst xs) : b ≠ st := by
  obtain ⟨i, m, r, h1, _⟩ := h
  exact ne_of hb h1 (n _)
theorem TotAt.kp {st a : Addr} {H H' : Hp} {D : Addr} {rain : List Int} {bs : List Bar} {T n : Nat} (e : Kp st H H') (hs : St4 H st a) (h : TotAt H D rain bs T n) : TotAt H' D rain bs T n := by
  obtain ⟨kvs, q1, q2, q3⟩ := h
  refine ⟨kvs, e _ _ q1 (hs.ne q1 (by intro xs q; cases q)), q2, fun i b hi hb => ?_⟩
  obtain ⟨p, e1, e2⟩ := q3 i b hi hb
  have e3 : p ≠ D := fun e => by rw [e] at e2; simp [rm] at e2
  have e4 := rm_same _ _ e2
  exact ⟨p, e1, by rw [rm_ne e3]; exact e _ _ e4 (hs.ne e4 (by intro xs q; cases q))⟩
theorem tick_is (cap level r roof flow wish : Int) : tickB cap level (r * roof + flow) wish =
    ⟨level + roof * r + flow - (if level + roof * r + flow - cap > 0 then level + roof * r + flow - cap else 0) - (if (level + roof * r + flow - (if level + roof * r + flow - cap > 0 then level + roof * r + flow - cap else 0)) < wish then (level + roof * r + flow - (if level + roof * r + flow - cap > 0 then level + roof * r + flow - cap else 0)) else wish),
      (if (level + roof * r + flow - (if level + roof * r + flow - cap > 0 then level + roof * r + flow - cap else 0)) < wish then (level + roof * r + flow - (if level + roof * r + flow - cap > 0 then level + roof * r + flow - cap else 0)) else wish),
      wish - (if (level + roof * r + flow - (if level + roof * r + flow - cap > 0 then level + roof * r + flow - cap else 0)) < wish then (level + roof * r + flow - (if level + roof * r + flow - cap > 0 then level + roof * r + flow - cap else 0)) else wish),
      (if level + roof * r + flow - cap > 0 then level + roof * r + flow - cap else 0)⟩ := by
  have e : level + (r * roof + flow) = level + roof * r + flow := by rw [Int.mul_comm r roof]; omega
  unfold tickB
  simp only
  rw [e]
  generalize level + roof * r + flow = x
  have e2 : ∀ a b : Int, (if a < b then a else b) = if b < a then b else a := by intro a b; split <;> split <;> omega
  rw [e2]
theorem fmod_nat (t n : Nat) : ((0 : Int) + (t : Int)).fmod (n : Int) = ((t % n : Nat) : Int) := by
  rw [Int.zero_add, Int.fmod_eq_emod_of_nonneg _ (by omega), Int.natCast_emod]
theorem ixN_nat {n i : Nat} (h : i < n) : ixN n ((0 : Int) + (i : Int)) = some i := by
  unfold ixN
  rw [if_pos (by omega), if_pos (by omega)]
  congr 1
  omega
theorem at0_get {l : List Int} {i : Nat} (h : i < l.length) : (l.map V.int)[i]? = some (.int (at0 l i)) := by
  unfold at0
  rw [List.getElem?_map, List.getElem?_eq_getElem h, List.getD_eq_getElem?_getD, List.getElem?_eq_getElem h]
  rfl
theorem fmod_nat' (t n : Nat) : (t : Int).fmod (n : Int) = ((t % n : Nat) : Int) := by
  rw [Int.fmod_eq_emod_of_nonneg _ (by omega), Int.natCast_emod]
theorem fdiv_nat (t n : Nat) : (t : Int).fdiv (n : Int) = ((t / n : Nat) : Int) := by
  rw [Int.fdiv_eq_ediv_of_nonneg _ (by omega), Int.natCast_ediv]
end Bk

set_option Elab.async false
set_option maxRecDepth 100000
set_option maxHeartbeats 1000000
namespace Bk
open PySem L2
local macro_rules | `(tactic| walk_at "hp") => `(tactic| first | assumption | exact upd_same | (rw [upd_ne (by first | assumption | (apply Ne.symm; assumption))]; walk_at "hp"))
section
variable {P : Program} {w : World} {K : PySem.W.Frag} {mg : Str → Option Value} {base : Heap} {CP CR : Addr}
def spPassTicksL (K : PySem.W.Frag) (CP : Addr) : Sp := fun vs H Q _ => ∃ (ra ba la : Addr) (rain : List Int) (bs : List Bar) (lv : List Int), vs = [.ref ra, .ref ba, .ref la] ∧ SqT K H ra (rain.map V.int) ∧ LBars K H ba bs ∧ H la = some (vi lv) ∧ rain.length ≤ 3000 ∧ bs.length ≤ 1000 ∧ (∀ r ∈ rain, 0 ≤ r ∧ r ≤ 1000000) ∧
  ∀ (p : Addr) (H' : Hp), Same H H' → H p = none → PassesAt CP (rmS (Old H) H') p (passTicks rain bs lv) → Q (.ref p) H'
theorem ok_pass_ticksL {f : Addr} {fd : FuncData} (F : Fun K "pass_ticks" "pass_ticks" s_pass_ticks f fd) (T : Txt K mg CP CR) (c_Passage__init : Maker P w K mg base "Passage" CP 2 (spPasInit K CP)) : FnOk P w K mg base CX0 4 f fd P_pass_ticks (spPassTicksL K CP) := by
  refine F.ok sc_pass_ticks (fun vs H Q E h => ?_) (fun cdv A outer s H vs Q E hr h => ?_)
  · obtain ⟨ra, ba, la, rain, bs, lv, rfl, _⟩ := h
    rfl
  · obtain ⟨ra, ba, la, rain, bs, lv, rfl, hra, hba, hla, hn, hb, hrain, k⟩ := h
    obtain ⟨vs, hv1, hv2, hv3⟩ := id hba
    refine ⟨_, (pss_cons (ps_set (i := 3) sc_pass_ticks.nd rfl (.inl rfl) (pe_lst pa_nil))
      (pss_cons (ps_set (i := 4) sc_pass_ticks.nd rfl (.inl rfl) (pe_op op_rep (pe_lst (pa_cons pe_int pa_nil)) (pe_callB call_len_seq (by rfl) T.n_len bt_len (pa_cons (pv 0) pa_nil))))
      (pss_cons (ps_for PassesOwn.never rfl (pi_zipM true true (by rfl) T.n_zip (pa_cons (pv 1) (pa_cons (pv 2) pa_nil))) (pg_tup rfl (pgs_cons (pg_name (i := 5) sc_pass_ticks.nd rfl (.inr rfl)) (pgs_cons (pg_name (i := 6) sc_pass_ticks.nd rfl (.inl rfl)) pgs_nil)))
        (pss_cons (ps_setLc (i := 7) (own := [("fall", 9), ("more", 10)]) (g := gTup K 2 (gCons (gName 9) (gCons (gName 10) gNil))) (by rfl) sc_pass_ticks.nd rfl rfl (sw_true rfl rfl rfl (by decide +kernel)) (pi_zipM false true (by rfl) T.n_zip (pa_cons (pv 0) (pa_cons (pv 4) pa_nil))) (blkOk_by (own := [("fall", 9), ("more", 10)]) (N := N_pass_ticks) (sc := defScope s_pass_ticks) (by decide +kernel)) (fun _ _ _ _ _ => (pg_tup rfl (pgs_cons (pg_name (i := 9) sc_pass_ticks.nd rfl (.inl rfl)) (pgs_cons (pg_name (i := 10) sc_pass_ticks.nd rfl (.inl rfl)) pgs_nil)))) (fun _ _ _ _ _ => pts_nil) (fun _ _ _ _ _ => (pe_op op_add (pe_op op_mul (pv 9) (pe_ix (ixK (K := K) (r := rIxT) rfl ix_tup) (pv 5) pe_int (fun _ _ => rfl))) (pv 10))))
      (pss_cons (ps_set (i := 8) sc_pass_ticks.nd rfl (.inl rfl) (pe_makeF c_Passage__init (hr.mono (by decide)) (by rfl) (pa_cons (pv 6) (pa_cons (pv 5) (pa_cons (pv 7) pa_nil)))))
      (pss_cons (ps_set (i := 4) sc_pass_ticks.nd rfl (.inl rfl) (pe_fld (pv 8) rfl))
      (pss_one (ps_expr (pe_bm PySem.F.plainAttrs_list PySem.F.slot_list_append PySem.F.type_list_append mt_append (pv 3) (pa_cons (pv 8) pa_nil))))))))
      (pss_one (ps_ret (pv 3)))))), ?_⟩
    -- passages = []; over = [0] * len(rain)
    refine ⟨by decide, fun pl n1 => ?_⟩
    have s1 := same_new (o := .lst []) n1
    refine ⟨by decide, fun z0 n2 => ?_⟩
    have s2 := s1.trans (same_new (o := .lst [.int 0]) n2)
    refine ⟨_, rfl, ra, _, rfl, .inr (same_t s2 hra), z0, _, [.int 0], rfl, rfl, upd_same, by omega, by rw [List.length_map]; omega, by rw [List.length_map]; show 1 * (rain.length : Int).toNat ≤ 16777216; omega, fun ol n3 => ?_⟩
    have s3 := s2.trans (same_new (o := .lst (List.replicate ((List.map V.int rain).length : Int).toNat [V.int 0]).flatten) n3)
    have eo : (List.replicate ((List.map V.int rain).length : Int).toNat [V.int 0]).flatten = (List.replicate rain.length (0 : Int)).map V.int := by
      rw [List.length_map, Int.toNat_natCast]
      induction rain.length with
      | zero => rfl
      | succ n ih => rw [List.replicate_succ, List.flatten_cons, ih, List.replicate_succ, List.map_cons]; rfl
    rw [eo] at s3 ⊢
    have npl : pl ≠ z0 := ne_of_none upd_same n2
    have npo : pl ≠ ol := ne_of_none (o := .lst []) (by walk_at "hp") n3
    have hpl : (upd (upd (upd H pl (.lst [])) z0 (.lst [.int 0])) ol (.lst ((List.replicate rain.length (0 : Int)).map V.int))) pl = some (.lst []) := by walk_at "hp"
    refine ⟨_, rfl, _, rfl, ba, la, _, _, rfl, SqL.of (s3 _ _ hv1), SqL.of (s3 _ _ hla), for_it (walk_zipM rfl) (fun i σ H' => Same H H' ∧ PassesRm CP (fun b => b = pl ∨ Old H b) H' pl ((passTicks rain bs lv).take i) ∧ (∃ oa, H' oa = some (vi (overFrom rain (List.replicate rain.length 0) bs lv i)) ∧
      ∃ x5 x6 x7 x8, σ = [some (.ref ra), some (.ref ba), some (.ref la), some (.ref pl), some (.ref oa), x5, x6, x7, x8, none, none]))
      ⟨s3, ⟨[], hpl, rfl, fun i v p e => by simp at e⟩, ol, by rw [overFrom_zero]; exact upd_same, none, none, none, none, rfl⟩ (fun i σ H' _ p => ⟨SqL.of (p.1 _ _ hv1), SqL.of (p.1 _ _ hla)⟩) ?_ ?_⟩
    · rintro i x σ H1 H2 hi ⟨t1, hps, oa, hoa, x5, x6, x7, x8, rfl⟩ ⟨t, y1, y2, rfl, nt, rfl, e1, e2⟩
      have e1 : vs[i]? = some y1 := e1
      obtain ⟨l, hl, rfl⟩ := get_int (show (lv.map V.int)[i]? = some y2 from e2)
      have hbi : bs[i]? = some bs[i] := List.getElem?_eq_getElem (by have := (List.getElem?_eq_some_iff.mp e1).1; omega)
      have hbar := hv3 i y1 _ e1 hbi
      obtain ⟨g1, g2⟩ := passFrom_get rain i (List.replicate rain.length 0) bs lv _ l hbi hl
      have t2 := t1.trans (same_new (o := .tup [y1, .int l]) nt)
      have u2 := same_new (o := .tup [y1, .int l]) nt
      refine ⟨t, _, rfl, .inl (.inl upd_same), rfl, _, _, rfl, _, _, rfl, rfl, ?_⟩
      -- inflow
      refine ⟨_, rfl, _, rfl, ra, oa, _, _, rfl, same_t t2 hra, SqL.of (u2 _ _ hoa), fun D nD => lc_map (walk_zipM rfl) (by simp only [List.length_map]; omega) (fun j => .int ((inflowOf rain (overFrom rain (List.replicate rain.length 0) bs lv i) bs[i]).getD j 0)) nD (fun H' e => ⟨same_t (t2.trans e) hra, SqL.of (e _ _ (u2 _ _ hoa))⟩) (fun j x H3 H4 hj s4 y => ?_) (fun H5 s5 e5 => ?_)⟩
      · obtain ⟨tt, z1, z2, rfl, ntt, rfl, w1, w2⟩ := y
        refine ⟨same_new ntt, fun R k1 => ?_⟩
        obtain ⟨q1, hq1, rfl⟩ := get_int (show (rain.map V.int)[j]? = some z1 from w1)
        obtain ⟨q2, hq2, rfl⟩ := get_int (show ((overFrom rain (List.replicate rain.length 0) bs lv i).map V.int)[j]? = some z2 from w2)
        rw [inflow_get hq1 hq2] at k1
        obtain ⟨tb, db, rfl, htb, hdb⟩ := hbar
        have hr1 := hrain q1 (List.mem_of_getElem? hq1)
        refine ⟨tt, _, rfl, .inl (.inl upd_same), rfl, _, _, rfl, _, _, rfl, rfl, rfl, _, rfl, _, rfl, tb, _, _, _, rfl, rfl, same_t ((t2.trans s4).trans (same_new ntt)) htb, rfl, _, _, rfl, rfl, .inl ⟨by omega, by omega⟩, _, rfl, _, _, rfl, rfl, k1 _ (Same.refl _)⟩
      · have eN : (List.range (min (rain.map V.int).length ((overFrom rain (List.replicate rain.length 0) bs lv i).map V.int).length)).map (fun j => V.int ((inflowOf rain (overFrom rain (List.replicate rain.length 0) bs lv i) bs[i]).getD j 0)) = (inflowOf rain (overFrom rain (List.replicate rain.length 0) bs lv i) bs[i]).map V.int := by
          rw [show (fun j => V.int ((inflowOf rain (overFrom rain (List.replicate rain.length 0) bs lv i) bs[i]).getD j 0)) = V.int ∘ (fun j => (inflowOf rain (overFrom rain (List.replicate rain.length 0) bs lv i) bs[i]).getD j 0) from rfl, ← List.map_map, map_range_getD (by rw [inflow_length]; simp)]
        rw [eN] at e5
        -- passage = Passage(level, barrel, inflow)
        refine ⟨_, rfl, _, rfl, _, rfl, fun px dx nx ndx nex => ?_⟩
        have s6 : Same H5 (upd (upd H5 dx (.own px)) px (.ins CP dx [])) := (same_new ndx).trans (same_new (by rw [upd_ne (Ne.symm nex)]; exact nx))
        have s7 := (t2.trans s5).trans s6
        refine ⟨px, dx, D, l, y1, bs[i], _, rfl, upd_same, hbar.mono s7, s6 _ _ e5, by rw [inflow_length]; omega, fun H6 la' ld' lm' lo' kp m1 m2 m3 m4 hpa => ⟨rfl, ?_⟩⟩
        have s8 : Same H5 H6 := fun b o q => kp _ _ (s6 _ _ q) (ne_of_none q nx)
        have s9 := (u2.trans s5).trans s8
        obtain ⟨dx', g0, g11, g12, g13, g14⟩ := id hpa
        refine ⟨_, rfl, px, CP, dx', _, _, rfl, g0, T.cl_Passage, T.na_Passage_over, rfl, ?_⟩
        obtain ⟨ws, hw1, hw2, hw3⟩ := hps.mono s9
        have hwl : ws.length ≤ 1000 := by rw [hw2, List.length_take, passTicks, passFrom_length]; omega
        refine ⟨_, rfl, .inl ⟨rfl, _, SqL.of hw1⟩, _, rfl, pl, _, _, rfl, rfl, hw1, Nat.lt_of_le_of_lt hwl (by decide), ?_⟩
        have hpn : H pl = none := n1
        have hlt : i < (passTicks rain bs lv).length := (List.getElem?_eq_some_iff.mp g1).1
        have etk : (passTicks rain bs lv).take (i + 1) = (passTicks rain bs lv).take i ++ [mkPas l bs[i].cap (inflowOf rain (overFrom rain (List.replicate rain.length 0) bs lv i) bs[i]) bs[i].draws] := by
          rw [List.take_add_one, show (passTicks rain bs lv)[i]? = _ from g1]
          rfl
        have hpl5 := s6 _ _ (s5 _ _ (u2 _ _ hps.choose_spec.1))
        have npx : px ≠ pl := (ne_of_none (s5 _ _ (u2 _ _ hps.choose_spec.1)) nx).symm
        have nl1 : la' ≠ pl := (ne_of_none hpl5 m1).symm
        have nl2 : ld' ≠ pl := (ne_of_none hpl5 m2).symm
        have nl3 : lm' ≠ pl := (ne_of_none hpl5 m3).symm
        have nlo : lo' ≠ pl := (ne_of_none hpl5 m4).symm
        refine ⟨Same.mut (t1.trans s9) hpn, ?_, lo', ?_, _, _, _, _, rfl⟩
        · rw [etk]
          refine ⟨_, upd_same, by rw [List.length_append, List.length_append, hw2]; rfl, fun j v q hv hq => ?_⟩
          rw [rmS_upd (.inl rfl)]
          by_cases hj : j < ws.length
          · rw [List.getElem?_append_left hj] at hv
            rw [List.getElem?_append_left (by rw [← hw2]; exact hj)] at hq
            exact hw3 j v q hv hq
          · rw [List.getElem?_append_right (by omega)] at hv
            rw [List.getElem?_append_right (by rw [← hw2]; omega), ← hw2] at hq
            cases ej : j - ws.length with
            | succ m => rw [ej] at hv; simp at hv
            | zero =>
              rw [ej] at hv hq
              cases (Option.some.inj hv : V.ref px = v)
              cases Option.some.inj hq
              have fr : ∀ q, q ≠ pl → H q = none → ¬ (q = pl ∨ Old H q) := fun q n1 n2 z => z.elim n1 (not_old n2)
              have sH : Same H (upd (upd H5 dx (.own px)) px (.ins CP dx [])) := (t2.trans s5).trans s6
              exact ⟨px, dx', la', ld', lm', lo', rfl, by rw [rmS_ne (fr _ npx ((t2.trans s5).free nx))]; exact g0, by rw [rmS_ne (fr _ nl1 (sH.free m1))]; exact g11, by rw [rmS_ne (fr _ nl2 (sH.free m2))]; exact g12, by rw [rmS_ne (fr _ nl3 (sH.free m3))]; exact g13, by rw [rmS_ne (fr _ nlo (sH.free m4))]; exact g14⟩
        · rw [upd_ne nlo, g2]
          exact g14
    · rintro σ H1 ⟨t1, hps, oa, hoa, x5, x6, x7, x8, rfl⟩
      have e : (passTicks rain bs lv).take (min vs.length (lv.map V.int).length) = passTicks rain bs lv := List.take_of_length_le (by rw [passTicks, passFrom_length, hv2, List.length_map]; exact Nat.le_refl _)
      rw [e] at hps
      obtain ⟨ws, hw1, hw2, hw3⟩ := hps
      exact ⟨_, rfl, k pl H1 t1 n1 ⟨ws, by rw [rmS_ne (not_old n1)]; exact hw1, hw2, fun i v p hv hp => (hw3 i v p hv hp).mono (rmS_sub fun b h => .inr h)⟩⟩
end
end Bk
set_option Elab.async false
set_option maxRecDepth 100000
set_option maxHeartbeats 1000000
namespace Bk
open PySem L2
local macro_rules | `(tactic| walk_at "hp") => `(tactic| first | assumption | exact upd_same | (rw [upd_ne (by first | assumption | (apply Ne.symm; assumption))]; walk_at "hp"))
section
variable {P : Program} {w : World} {K : PySem.W.Frag} {mg : Str → Option Value} {base : Heap} {CP CR : Addr}
def spPassTicksH (K : PySem.W.Frag) (CP : Addr) : Sp := fun vs H Q _ => ∃ (ra ba la : Addr) (rain : List Int) (bs : List Bar) (lv : List Int), vs = [.ref ra, .ref ba, .ref la] ∧ SqT K H ra (rain.map V.int) ∧ LBars K H ba bs ∧ SqT K H la (lv.map V.int) ∧ rain.length ≤ 3000 ∧ bs.length ≤ 1000 ∧ (∀ r ∈ rain, 0 ≤ r ∧ r ≤ 1000000) ∧
  ∀ (p : Addr) (H' : Hp), Same H H' → H p = none → PassesAt CP (rmS (Old H) H') p (passTicks rain bs lv) → Q (.ref p) H'
theorem ok_pass_ticksH {f : Addr} {fd : FuncData} (F : Fun K "pass_ticks" "pass_ticks" s_pass_ticks f fd) (T : Txt K mg CP CR) (c_Passage__init : Maker P w K mg base "Passage" CP 2 (spPasInit K CP)) : FnOk P w K mg base CX0 4 f fd P_pass_ticks (spPassTicksH K CP) := by
  refine F.ok sc_pass_ticks (fun vs H Q E h => ?_) (fun cdv A outer s H vs Q E hr h => ?_)
  · obtain ⟨ra, ba, la, rain, bs, lv, rfl, _⟩ := h
    rfl
  · obtain ⟨ra, ba, la, rain, bs, lv, rfl, hra, hba, hla, hn, hb, hrain, k⟩ := h
    obtain ⟨vs, hv1, hv2, hv3⟩ := id hba
    refine ⟨_, (pss_cons (ps_set (i := 3) sc_pass_ticks.nd rfl (.inl rfl) (pe_lst pa_nil))
      (pss_cons (ps_set (i := 4) sc_pass_ticks.nd rfl (.inl rfl) (pe_op op_rep (pe_lst (pa_cons pe_int pa_nil)) (pe_callB call_len_seq (by rfl) T.n_len bt_len (pa_cons (pv 0) pa_nil))))
      (pss_cons (ps_for PassesOwn.never rfl (pi_zipM true false (by rfl) T.n_zip (pa_cons (pv 1) (pa_cons (pv 2) pa_nil))) (pg_tup rfl (pgs_cons (pg_name (i := 5) sc_pass_ticks.nd rfl (.inr rfl)) (pgs_cons (pg_name (i := 6) sc_pass_ticks.nd rfl (.inl rfl)) pgs_nil)))
        (pss_cons (ps_setLc (i := 7) (own := [("fall", 9), ("more", 10)]) (g := gTup K 2 (gCons (gName 9) (gCons (gName 10) gNil))) (by rfl) sc_pass_ticks.nd rfl rfl (sw_true rfl rfl rfl (by decide +kernel)) (pi_zipM false true (by rfl) T.n_zip (pa_cons (pv 0) (pa_cons (pv 4) pa_nil))) (blkOk_by (own := [("fall", 9), ("more", 10)]) (N := N_pass_ticks) (sc := defScope s_pass_ticks) (by decide +kernel)) (fun _ _ _ _ _ => (pg_tup rfl (pgs_cons (pg_name (i := 9) sc_pass_ticks.nd rfl (.inl rfl)) (pgs_cons (pg_name (i := 10) sc_pass_ticks.nd rfl (.inl rfl)) pgs_nil)))) (fun _ _ _ _ _ => pts_nil) (fun _ _ _ _ _ => (pe_op op_add (pe_op op_mul (pv 9) (pe_ix (ixK (K := K) (r := rIxT) rfl ix_tup) (pv 5) pe_int (fun _ _ => rfl))) (pv 10))))
      (pss_cons (ps_set (i := 8) sc_pass_ticks.nd rfl (.inl rfl) (pe_makeF c_Passage__init (hr.mono (by decide)) (by rfl) (pa_cons (pv 6) (pa_cons (pv 5) (pa_cons (pv 7) pa_nil)))))
      (pss_cons (ps_set (i := 4) sc_pass_ticks.nd rfl (.inl rfl) (pe_fld (pv 8) rfl))
      (pss_one (ps_expr (pe_bm PySem.F.plainAttrs_list PySem.F.slot_list_append PySem.F.type_list_append mt_append (pv 3) (pa_cons (pv 8) pa_nil))))))))
      (pss_one (ps_ret (pv 3)))))), ?_⟩
    -- passages = []; over = [0] * len(rain)
    refine ⟨by decide, fun pl n1 => ?_⟩
    have s1 := same_new (o := .lst []) n1
    refine ⟨by decide, fun z0 n2 => ?_⟩
    have s2 := s1.trans (same_new (o := .lst [.int 0]) n2)
    refine ⟨_, rfl, ra, _, rfl, .inr (same_t s2 hra), z0, _, [.int 0], rfl, rfl, upd_same, by omega, by rw [List.length_map]; omega, by rw [List.length_map]; show 1 * (rain.length : Int).toNat ≤ 16777216; omega, fun ol n3 => ?_⟩
    have s3 := s2.trans (same_new (o := .lst (List.replicate ((List.map V.int rain).length : Int).toNat [V.int 0]).flatten) n3)
    have eo : (List.replicate ((List.map V.int rain).length : Int).toNat [V.int 0]).flatten = (List.replicate rain.length (0 : Int)).map V.int := by
      rw [List.length_map, Int.toNat_natCast]
      induction rain.length with
      | zero => rfl
      | succ n ih => rw [List.replicate_succ, List.flatten_cons, ih, List.replicate_succ, List.map_cons]; rfl
    rw [eo] at s3 ⊢
    have npl : pl ≠ z0 := ne_of_none upd_same n2
    have npo : pl ≠ ol := ne_of_none (o := .lst []) (by walk_at "hp") n3
    have hpl : (upd (upd (upd H pl (.lst [])) z0 (.lst [.int 0])) ol (.lst ((List.replicate rain.length (0 : Int)).map V.int))) pl = some (.lst []) := by walk_at "hp"
    refine ⟨_, rfl, _, rfl, ba, la, _, _, rfl, SqL.of (s3 _ _ hv1), same_t s3 hla, for_it (walk_zipM rfl) (fun i σ H' => Same H H' ∧ PassesRm CP (fun b => b = pl ∨ Old H b) H' pl ((passTicks rain bs lv).take i) ∧ (∃ oa, H' oa = some (vi (overFrom rain (List.replicate rain.length 0) bs lv i)) ∧
      ∃ x5 x6 x7 x8, σ = [some (.ref ra), some (.ref ba), some (.ref la), some (.ref pl), some (.ref oa), x5, x6, x7, x8, none, none]))
      ⟨s3, ⟨[], hpl, rfl, fun i v p e => by simp at e⟩, ol, by rw [overFrom_zero]; exact upd_same, none, none, none, none, rfl⟩ (fun i σ H' _ p => ⟨SqL.of (p.1 _ _ hv1), same_t p.1 hla⟩) ?_ ?_⟩
    · rintro i x σ H1 H2 hi ⟨t1, hps, oa, hoa, x5, x6, x7, x8, rfl⟩ ⟨t, y1, y2, rfl, nt, rfl, e1, e2⟩
      have e1 : vs[i]? = some y1 := e1
      obtain ⟨l, hl, rfl⟩ := get_int (show (lv.map V.int)[i]? = some y2 from e2)
      have hbi : bs[i]? = some bs[i] := List.getElem?_eq_getElem (by have := (List.getElem?_eq_some_iff.mp e1).1; omega)
      have hbar := hv3 i y1 _ e1 hbi
      obtain ⟨g1, g2⟩ := passFrom_get rain i (List.replicate rain.length 0) bs lv _ l hbi hl
      have t2 := t1.trans (same_new (o := .tup [y1, .int l]) nt)
      have u2 := same_new (o := .tup [y1, .int l]) nt
      refine ⟨t, _, rfl, .inl (.inl upd_same), rfl, _, _, rfl, _, _, rfl, rfl, ?_⟩
      -- inflow
      refine ⟨_, rfl, _, rfl, ra, oa, _, _, rfl, same_t t2 hra, SqL.of (u2 _ _ hoa), fun D nD => lc_map (walk_zipM rfl) (by simp only [List.length_map]; omega) (fun j => .int ((inflowOf rain (overFrom rain (List.replicate rain.length 0) bs lv i) bs[i]).getD j 0)) nD (fun H' e => ⟨same_t (t2.trans e) hra, SqL.of (e _ _ (u2 _ _ hoa))⟩) (fun j x H3 H4 hj s4 y => ?_) (fun H5 s5 e5 => ?_)⟩
      · obtain ⟨tt, z1, z2, rfl, ntt, rfl, w1, w2⟩ := y
        refine ⟨same_new ntt, fun R k1 => ?_⟩
        obtain ⟨q1, hq1, rfl⟩ := get_int (show (rain.map V.int)[j]? = some z1 from w1)
        obtain ⟨q2, hq2, rfl⟩ := get_int (show ((overFrom rain (List.replicate rain.length 0) bs lv i).map V.int)[j]? = some z2 from w2)
        rw [inflow_get hq1 hq2] at k1
        obtain ⟨tb, db, rfl, htb, hdb⟩ := hbar
        have hr1 := hrain q1 (List.mem_of_getElem? hq1)
        refine ⟨tt, _, rfl, .inl (.inl upd_same), rfl, _, _, rfl, _, _, rfl, rfl, rfl, _, rfl, _, rfl, tb, _, _, _, rfl, rfl, same_t ((t2.trans s4).trans (same_new ntt)) htb, rfl, _, _, rfl, rfl, .inl ⟨by omega, by omega⟩, _, rfl, _, _, rfl, rfl, k1 _ (Same.refl _)⟩
      · have eN : (List.range (min (rain.map V.int).length ((overFrom rain (List.replicate rain.length 0) bs lv i).map V.int).length)).map (fun j => V.int ((inflowOf rain (overFrom rain (List.replicate rain.length 0) bs lv i) bs[i]).getD j 0)) = (inflowOf rain (overFrom rain (List.replicate rain.length 0) bs lv i) bs[i]).map V.int := by
          rw [show (fun j => V.int ((inflowOf rain (overFrom rain (List.replicate rain.length 0) bs lv i) bs[i]).getD j 0)) = V.int ∘ (fun j => (inflowOf rain (overFrom rain (List.replicate rain.length 0) bs lv i) bs[i]).getD j 0) from rfl, ← List.map_map, map_range_getD (by rw [inflow_length]; simp)]
        rw [eN] at e5
        -- passage = Passage(level, barrel, inflow)
        refine ⟨_, rfl, _, rfl, _, rfl, fun px dx nx ndx nex => ?_⟩
        have s6 : Same H5 (upd (upd H5 dx (.own px)) px (.ins CP dx [])) := (same_new ndx).trans (same_new (by rw [upd_ne (Ne.symm nex)]; exact nx))
        have s7 := (t2.trans s5).trans s6
        refine ⟨px, dx, D, l, y1, bs[i], _, rfl, upd_same, hbar.mono s7, s6 _ _ e5, by rw [inflow_length]; omega, fun H6 la' ld' lm' lo' kp m1 m2 m3 m4 hpa => ⟨rfl, ?_⟩⟩
        have s8 : Same H5 H6 := fun b o q => kp _ _ (s6 _ _ q) (ne_of_none q nx)
        have s9 := (u2.trans s5).trans s8
        obtain ⟨dx', g0, g11, g12, g13, g14⟩ := id hpa
        refine ⟨_, rfl, px, CP, dx', _, _, rfl, g0, T.cl_Passage, T.na_Passage_over, rfl, ?_⟩
        obtain ⟨ws, hw1, hw2, hw3⟩ := hps.mono s9
        have hwl : ws.length ≤ 1000 := by rw [hw2, List.length_take, passTicks, passFrom_length]; omega
        refine ⟨_, rfl, .inl ⟨rfl, _, SqL.of hw1⟩, _, rfl, pl, _, _, rfl, rfl, hw1, Nat.lt_of_le_of_lt hwl (by decide), ?_⟩
        have hpn : H pl = none := n1
        have hlt : i < (passTicks rain bs lv).length := (List.getElem?_eq_some_iff.mp g1).1
        have etk : (passTicks rain bs lv).take (i + 1) = (passTicks rain bs lv).take i ++ [mkPas l bs[i].cap (inflowOf rain (overFrom rain (List.replicate rain.length 0) bs lv i) bs[i]) bs[i].draws] := by
          rw [List.take_add_one, show (passTicks rain bs lv)[i]? = _ from g1]
          rfl
        have hpl5 := s6 _ _ (s5 _ _ (u2 _ _ hps.choose_spec.1))
        have npx : px ≠ pl := (ne_of_none (s5 _ _ (u2 _ _ hps.choose_spec.1)) nx).symm
        have nl1 : la' ≠ pl := (ne_of_none hpl5 m1).symm
        have nl2 : ld' ≠ pl := (ne_of_none hpl5 m2).symm
        have nl3 : lm' ≠ pl := (ne_of_none hpl5 m3).symm
        have nlo : lo' ≠ pl := (ne_of_none hpl5 m4).symm
        refine ⟨Same.mut (t1.trans s9) hpn, ?_, lo', ?_, _, _, _, _, rfl⟩
        · rw [etk]
          refine ⟨_, upd_same, by rw [List.length_append, List.length_append, hw2]; rfl, fun j v q hv hq => ?_⟩
          rw [rmS_upd (.inl rfl)]
          by_cases hj : j < ws.length
          · rw [List.getElem?_append_left hj] at hv
            rw [List.getElem?_append_left (by rw [← hw2]; exact hj)] at hq
            exact hw3 j v q hv hq
          · rw [List.getElem?_append_right (by omega)] at hv
            rw [List.getElem?_append_right (by rw [← hw2]; omega), ← hw2] at hq
            cases ej : j - ws.length with
            | succ m => rw [ej] at hv; simp at hv
            | zero =>
              rw [ej] at hv hq
              cases (Option.some.inj hv : V.ref px = v)
              cases Option.some.inj hq
              have fr : ∀ q, q ≠ pl → H q = none → ¬ (q = pl ∨ Old H q) := fun q n1 n2 z => z.elim n1 (not_old n2)
              have sH : Same H (upd (upd H5 dx (.own px)) px (.ins CP dx [])) := (t2.trans s5).trans s6
              exact ⟨px, dx', la', ld', lm', lo', rfl, by rw [rmS_ne (fr _ npx ((t2.trans s5).free nx))]; exact g0, by rw [rmS_ne (fr _ nl1 (sH.free m1))]; exact g11, by rw [rmS_ne (fr _ nl2 (sH.free m2))]; exact g12, by rw [rmS_ne (fr _ nl3 (sH.free m3))]; exact g13, by rw [rmS_ne (fr _ nlo (sH.free m4))]; exact g14⟩
        · rw [upd_ne nlo, g2]
          exact g14
    · rintro σ H1 ⟨t1, hps, oa, hoa, x5, x6, x7, x8, rfl⟩
      have e : (passTicks rain bs lv).take (min vs.length (lv.map V.int).length) = passTicks rain bs lv := List.take_of_length_le (by rw [passTicks, passFrom_length, hv2, List.length_map]; exact Nat.le_refl _)
      rw [e] at hps
      obtain ⟨ws, hw1, hw2, hw3⟩ := hps
      exact ⟨_, rfl, k pl H1 t1 n1 ⟨ws, by rw [rmS_ne (not_old n1)]; exact hw1, hw2, fun i v p hv hp => (hw3 i v p hv hp).mono (rmS_sub fun b h => .inr h)⟩⟩
end
end Bk
set_option Elab.async false
set_option maxRecDepth 100000
set_option maxHeartbeats 1000000
namespace Bk
open PySem L2
/-- the state of the later laws' draws: the list at h, the script's own copy at l -/
def HSt (H : Hp) (h l : Addr) : Prop := ∃ (m t : Int) (cs : List Int), H h = some (.lst [.int m, .ref l, .int t]) ∧ H l = some (.lst (cs.map V.int)) ∧ l ≠ h ∧ cs.length ≤ 1000
theorem HSt.mono {H H' : Hp} {h l : Addr} (e : Same H H') (s : HSt H h l) : HSt H' h l := by
  obtain ⟨m, t, cs, h1, h2, h3⟩ := s
  exact ⟨m, t, cs, e _ _ h1, e _ _ h2, h3⟩
theorem max1 {n : Nat} : (1 : Int) ≤ (if ((n : Nat) : Int) > 1 then ((n : Nat) : Int) else 1) ∧ (if ((n : Nat) : Int) > 1 then ((n : Nat) : Int) else 1) ≤ (n : Nat) + 1 := by split <;> omega
section
variable {P : Program} {w : World} {K : PySem.W.Frag} {mg : Str → Option Value} {base : Heap} {CP CR : Addr}
def spMix (K : PySem.W.Frag) : Sp := fun vs H Q _ => ∃ (a : Addr) (ns : List Int) (n : Int), vs = [.ref a, .int n] ∧ SqL K H a (ns.map V.int) ∧ ns.length ≤ 1000 ∧ 0 ≤ n ∧ n < 2147483647 ∧ ∀ h l H', Same H H' → H h = none → H l = none → HSt H' h l → Q (.ref h) H'
theorem ok_mix {f : Addr} {fd : FuncData} (F : Fun K "_law_mix" "_law_mix" s_law_mix f fd) (T : Txt K mg CP CR) : FnOk P w K mg base CX0 1 f fd P_law_mix (spMix K) := by
  refine F.ok sc_law_mix (fun vs H Q E h => ?_) (fun cdv A outer s H vs Q E hr h => ?_)
  · obtain ⟨a, ns, n, rfl, _⟩ := h
    rfl
  · obtain ⟨a, ns, n, rfl, hS, hl, n0, n1, k⟩ := h
    refine ⟨_, (pss_cons (ps_set (i := 2) sc_law_mix.nd rfl (.inl rfl) (pv 1))
      (pss_cons (ps_for PassesOwn.never rfl (pi_list (pv 0)) (pg_name (i := 3) sc_law_mix.nd rfl (.inl rfl))
        (pss_one (ps_set (i := 2) sc_law_mix.nd rfl (.inl rfl) (pe_op op_modN (pe_op op_add (pe_op op_add (pe_op op_mul (pv 2) pe_int) (pe_op op_modN (pv 3) pe_int)) pe_int) pe_int))))
      (pss_one (ps_ret (pe_lst (pa_cons (pv 2) (pa_cons (pe_callTy call_list_of (by rfl) T.n_list bt_list (pa_cons (pv 0) pa_nil)) (pa_cons pe_int pa_nil)))))))), ?_⟩
    refine ⟨_, rfl, _, rfl, a, rfl, ⟨_, hS⟩, for_it walk_list (fun i σ H' => H' = H ∧ ∃ (m : Int) (x : Option V), σ = [some (.ref a), some (.int n), some (.int m), x] ∧ 0 ≤ m ∧ m < 2147483647) ⟨rfl, n, none, rfl, n0, n1⟩ (fun i σ H' _ p => by rw [p.1]; exact hS) ?_ ?_⟩
    · rintro i x σ H1 H2 hi ⟨rfl, m, x0, rfl, m1, m2⟩ ⟨rfl, hx⟩
      obtain ⟨q, hq, rfl⟩ := get_int hx
      refine ⟨_, rfl, _, _, rfl, rfl, .inl ⟨by omega, by omega⟩, _, rfl, _, _, rfl, rfl, by show (2147483629 : Int) ≠ 0; decide, _, _, rfl, rfl, _, _, rfl, rfl, _, _, rfl, rfl, by show (2147483647 : Int) ≠ 0; decide, rfl, _, _, rfl, (fmod_pos (by decide)).1, (fmod_pos (by decide)).2⟩
    · rintro σ H1 ⟨rfl, m, x0, rfl, m1, m2⟩
      refine ⟨_, rfl, _, rfl, a, _, rfl, .inl hS, fun l nl => ?_⟩
      have sl := same_new (o := .lst (ns.map V.int)) nl
      refine ⟨by show 3 ≤ sizeLine; decide, fun h nh => ?_⟩
      have nlh : l ≠ h := ne_of_none upd_same nh
      have nh1 : H1 h = none := by rw [upd_ne nlh.symm] at nh; exact nh
      exact k h l _ (sl.trans (same_new nh)) nh1 nl ⟨m, 0, ns, upd_same, by rw [upd_ne nlh]; exact upd_same, nlh, hl⟩
def spNext (K : PySem.W.Frag) : Sp := fun vs H Q _ => ∃ (h l : Addr) (n : Int), vs = [.ref h, .int n] ∧ HSt H h l ∧ 1 ≤ n ∧ n ≤ 2000000000000000000 ∧
  ∀ (z : Int) (H' : Hp), 0 ≤ z → z < n → KeepL [h, l] H H' → HSt H' h l → Q (.int z) H'
theorem ok_next {f : Addr} {fd : FuncData} (F : Fun K "_law_next" "_law_next" s_law_next f fd) (T : Txt K mg CP CR) : FnOk P w K mg base CX0 1 f fd P_law_next (spNext K) := by
  refine F.ok sc_law_next (fun vs H Q E h => ?_) (fun cdv A outer s H vs Q E hr h => ?_)
  · obtain ⟨h, l, n, rfl, _⟩ := h
    rfl
  · obtain ⟨h, l, n, rfl, ⟨m, t, cs, h1, h2, h3, h4⟩, n1, n2, k⟩ := h
    refine ⟨_, (pss_cons (ps_set (i := 2) sc_law_next.nd rfl (.inl rfl) (pe_ix ix_list (pe_op op_cat (pe_ix ix_list (pv 0) pe_int (fun _ _ => rfl)) (pe_lst (pa_cons pe_int pa_nil))) (pe_op op_modN (pe_ix ix_list (pv 0) pe_int (fun _ _ => rfl)) (pe_callB (call_max2 rfl) (by rfl) T.n_max bt_max (pa_cons pe_int (pa_cons (pe_callB call_len_seq (by rfl) T.n_len bt_len (pa_cons (pe_ix ix_list (pv 0) pe_int (fun _ _ => rfl)) pa_nil)) pa_nil)))) (fun _ _ => rfl)))
      (pss_cons (ps_if (pt_cmpR op_ge (pv 2) (pe_op op_pow pe_int pe_int) (nomark _))
        (pss_cons (ps_asg (pe_op op_fdivW (pv 2) (pv 1)) (pg_sub (pe_ix ix_list (pv 0) pe_int (fun _ _ => rfl)) (pe_op op_modN (pe_ix ix_list (pv 0) pe_int (fun _ _ => rfl)) (pe_callB call_len_seq (by rfl) T.n_len bt_len (pa_cons (pe_ix ix_list (pv 0) pe_int (fun _ _ => rfl)) pa_nil))) set_list))
      (pss_one (ps_ret (pe_op op_modN (pv 2) (pv 1)))))
        pss_nil)
      (pss_cons (ps_asg (pe_op op_modN (pe_op op_add (pe_op op_add (pe_op op_mul (pe_ix ix_list (pv 0) pe_int (fun _ _ => rfl)) pe_int) (pe_op op_mul (pv 2) pe_int)) pe_int) pe_int) (pg_sub (pv 0) pe_int set_list))
      (pss_cons (ps_asg (pe_op op_add (pe_ix ix_list (pv 0) pe_int (fun _ _ => rfl)) pe_int) (pg_sub (pv 0) pe_int set_list))
      (pss_one (ps_ret (pe_op op_modN (pe_op op_fdivW (pe_ix ix_list (pv 0) pe_int (fun _ _ => rfl)) pe_int) (pv 1)))))))), ?_⟩
    refine ⟨_, rfl, h, _, _, _, rfl, rfl, SqL.of h1, rfl, by show 1 ≤ sizeLine; decide, fun q nq => ?_⟩
    have sq := same_new (o := .lst [V.int 0]) nq
    refine ⟨l, q, _, _, rfl, rfl, sq _ _ h2, upd_same, by rw [List.length_map]; exact Nat.le_trans (Nat.add_le_add_right h4 1) (by decide), fun q2 nq2 => ?_⟩
    obtain ⟨H2, e2, s2, f2⟩ : ∃ H2, upd (upd H q (.lst [V.int 0])) q2 (.lst (cs.map V.int ++ [V.int 0])) = H2 ∧ Same H H2 ∧ H2 q2 = some (.lst (cs.map V.int ++ [V.int 0])) := ⟨_, rfl, sq.trans (same_new nq2), upd_same⟩
    rw [e2]
    have g1 := s2 _ _ h1
    have g2 := s2 _ _ h2
    have hM := max1 (n := (cs.map V.int).length)
    have hfm := fmod_pos (z := t) hM.1
    obtain ⟨j, hj⟩ := Int.eq_ofNat_of_zero_le hfm.1
    have hjl : j < (cs ++ [0]).length := by
      rw [List.length_append, List.length_singleton]
      rw [List.length_map] at hM hfm hj
      omega
    have hat : (cs.map V.int ++ [V.int 0])[j]? = some (.int (cs ++ [0])[j]) := by
      have : cs.map V.int ++ [V.int 0] = (cs ++ [0]).map V.int := by rw [List.map_append]; rfl
      rw [this, List.getElem?_map, List.getElem?_eq_getElem hjl]
      rfl
    generalize (cs ++ [0])[j] = c at hat
    refine ⟨_, rfl, h, _, _, _, rfl, rfl, SqL.of g1, rfl, _, rfl, h, _, _, _, rfl, rfl, SqL.of g1, rfl, l, _, rfl, .inl (SqL.of g2), _, _, rfl, _, _, rfl, rfl, by omega, q2, _, _, _, rfl, rfl, SqL.of f2, at_of (j := j) hj hat, ?_⟩
    have hW : ∀ i : Int, CDivW i n := fun i => wide_div (b := 64) (by omega) (by omega) (by decide) (by decide)
    have nl' : ∀ {b : Addr}, b ∉ [h, l] → b ≠ h ∧ b ≠ l := fun {b} hb => by simpa using hb
    refine ⟨_, rfl, _, _, rfl, rfl, ⟨by decide, by decide⟩, _, _, rfl, rfl, _, rfl, ite2 (fun c1 => ?_) (fun c1 => ?_)⟩
    · have c1 : (10 : Int) ^ (18 : Int).toNat ≤ c := by simpa using c1
      have hpos : 0 < cs.length := by
        cases cs with
        | nil =>
          match j, hat with
          | 0, hat =>
            have : c = 0 := by cases hat; rfl
            subst this
            exact absurd c1 (by decide)
          | j + 1, hat => simp at hat
        | cons x r => exact Nat.succ_pos _
      have hm := fmod_pos (z := t) (n := ((cs.map V.int).length : Nat)) (by rw [List.length_map]; omega)
      obtain ⟨i, hi⟩ := Int.eq_ofNat_of_zero_le hm.1
      have hil : i < (cs.map V.int).length := by omega
      refine ⟨_, rfl, _, rfl, _, _, rfl, rfl, hW _, _, rfl, h, _, _, _, rfl, rfl, SqL.of g1, rfl, _, rfl, h, _, _, _, rfl, rfl, SqL.of g1, rfl, _, rfl, h, _, _, _, rfl, rfl, SqL.of g1, rfl, l, _, rfl, .inl (SqL.of g2), _, _, rfl, rfl, by omega, l, _, _, i, rfl, rfl, g2, ?_, ?_⟩
      · rw [hi]
        unfold ixN
        rw [if_pos (by omega)]
        rw [List.length_map] at hil
        simp [hil]
      · refine ⟨_, rfl, _, rfl, _, _, rfl, rfl, by show n ≠ 0; omega, k _ _ (fmod_pos n1).1 (fmod_pos n1).2 (fun b o e hb => by rw [upd_ne (nl' hb).2]; exact s2 _ _ e) ⟨m, t, cs.set i (c / n), by rw [upd_ne h3.symm]; exact g1, ?_, h3, by rw [List.length_set]; exact h4⟩⟩
        rw [List.map_set]
        exact upd_same
    · refine ⟨_, rfl, h, _, _, _, rfl, rfl, SqL.of g1, rfl, ?_⟩
      refine ⟨_, _, rfl, rfl, .inr ⟨by decide, by decide⟩, _, rfl, _, _, rfl, rfl, .inr ⟨by decide, by decide⟩, _, _, rfl, rfl, _, _, rfl, rfl, _, _, rfl, rfl, by show (2147483647 : Int) ≠ 0; decide, _, rfl, h, _, _, _, rfl, rfl, g1, rfl, ?_⟩
      refine ⟨_, rfl, h, _, _, _, rfl, rfl, SqL.of upd_same, rfl, _, _, rfl, rfl, _, rfl, h, _, _, _, rfl, rfl, upd_same, rfl, ?_⟩
      refine ⟨_, rfl, h, _, _, _, rfl, rfl, SqL.of upd_same, rfl, _, _, rfl, rfl, wide_div (b := 64) (by decide) (by decide) (by decide) (by decide), _, rfl, _, _, rfl, rfl, by show n ≠ 0; omega, ?_⟩
      refine k _ _ (fmod_pos n1).1 (fmod_pos n1).2 (fun b o e hb => by rw [upd_ne (nl' hb).1, upd_ne (nl' hb).1]; exact s2 _ _ e) ⟨_, _, cs, upd_same, by rw [upd_ne h3, upd_ne h3]; exact g2, h3, h4⟩
end
end Bk
set_option Elab.async false
set_option maxRecDepth 100000
set_option maxHeartbeats 4000000
namespace Bk
open PySem L2
theorem KeepL.tr {L : List Addr} {H H1 H2 : Hp} (a : KeepL L H H1) (b : KeepL L H1 H2) : KeepL L H H2 := fun c o e n => b c o (a c o e n) n
theorem KeepL.sm {L : List Addr} {H H' : Hp} (e : Same H H') : KeepL L H H' := fun c o h _ => e c o h
theorem HSt.not {H : Hp} {h l p : Addr} (s : HSt H h l) (n : H p = none) : p ∉ [h, l] := fun hm => by
  obtain ⟨m, t, cs, h1, h2, _⟩ := s
  rcases List.mem_cons.mp hm with q | q
  · rw [q, h1] at n; cases n
  · rw [List.mem_singleton.mp q, h2] at n; cases n
theorem HSt.tupl {H : Hp} {h l p : Addr} {xs : List V} (s : HSt H h l) (e : H p = some (.tup xs)) : p ∉ [h, l] := fun hm => by
  obtain ⟨m, t, cs, h1, h2, _⟩ := s
  rcases List.mem_cons.mp hm with q | q
  · rw [q, h1] at e; cases e
  · rw [List.mem_singleton.mp q, h2] at e; cases e
theorem HSt.upd {H : Hp} {h l p : Addr} {o : HO} (s : HSt H h l) (n : p ∉ [h, l]) : HSt (upd H p o) h l := by
  obtain ⟨m, t, cs, h1, h2, h3, h4⟩ := s
  exact ⟨m, t, cs, by rw [upd_ne (fun e => n (by rw [← e]; exact List.mem_cons_self))]; exact h1, by rw [upd_ne (fun e => n (by rw [← e]; exact List.mem_cons_of_mem _ List.mem_cons_self))]; exact h2, h3, h4⟩
/-- a comprehension whose items draw -/
theorem lc_nx {J : It} {n : Nat} {Y : Nat → Hp → V → Hp → Prop} (w : Walk J n (fun _ => True) Y) (hn : n ≤ 100000) {g : TG} {te : TE} {vs : List Nat} {σ : L2.St} {H : Hp} {D h l : Addr} {Qd : Hp → Prop} (good : V → Prop) (nD : H D = none) (hst : HSt H h l)
    (hY : ∀ i H x H', Y i H x H' → H' = H)
    (hs : ∀ i x H1, i < n → KeepL [h, l] H H1 → HSt H1 h l → Y i H1 x H1 → ∀ R : VK, (∀ y H3, good y → KeepL [h, l] H1 H3 → HSt H3 h l → R y H3) → g x (wipe σ vs) H1 fun σ2 H3 => wipe σ2 vs = wipe σ vs ∧ te σ2 H3 R)
    (hd : ∀ H' ys, KeepL [h, l] H H' → HSt H' h l → H' D = some (.lst ys) → ys.length = n → (∀ y ∈ ys, good y) → Qd H') :
    ∃ W : Nat → Nat → Hp → Prop, (∃ m, W 0 m (upd H D (.lst []))) ∧ ∀ i m H, W i m H →
      (J.stop i H ∧ Qd H) ∨ (J.go i H ∧ ∃ Nx : Hp → Prop, (∀ H', Nx H' → ∃ m', m' < m ∧ W (i + 1) m' H') ∧ ∀ x H', J.yld i H x H' → g x (wipe σ vs) H' fun σ2 H2 => wipe σ2 vs = wipe σ vs ∧ tYes σ2 H2 fun b H3 =>
        if b = true then te σ2 H3 fun y H4 => ∃ acc, H4 D = some (.lst acc) ∧ acc.length < sizeLine ∧ Nx (upd H4 D (.lst (acc ++ [y]))) else Nx H3) := by
  have nDs := hst.not nD
  have kD : ∀ {H1 : Hp} {o : HO}, KeepL [h, l] H H1 → KeepL [h, l] H (upd H1 D o) := fun kp b o e n => by rw [upd_ne (ne_of_none e nD)]; exact kp b o e n
  refine lc_it w (fun i H' => KeepL [h, l] H H' ∧ HSt H' h l ∧ ∃ ys, H' D = some (.lst ys) ∧ ys.length = i ∧ ∀ y ∈ ys, good y) ⟨kD (KeepL.sm (Same.refl H)), hst.upd nDs, [], upd_same, rfl, fun y h => by cases h⟩ (fun i H' _ p => trivial) ?_ ?_
  · rintro i x H1 H2 hi ⟨k1, s1, ys, e1, e2, e3⟩ y
    cases hY _ _ _ _ y
    refine hs i x H1 hi k1 s1 y _ fun z H3 gz k3 s3 => ⟨ys, k3 _ _ e1 nDs, by rw [e2]; exact Nat.lt_of_lt_of_le (Nat.lt_of_lt_of_le hi hn) (by decide), kD (k1.tr k3), s3.upd nDs, ys ++ [z], upd_same, by rw [List.length_append, e2]; rfl, fun u hu => ?_⟩
    rcases List.mem_append.mp hu with q | q
    · exact e3 u q
    · rw [List.mem_singleton.mp q]; exact gz
  · rintro H1 ⟨k1, s1, ys, e1, e2, e3⟩
    exact hd H1 ys k1 s1 e1 e2 e3
def nm4 : List Str := ["top", "mid", "low", "abcdefgh"]
theorem nm4_get {i : Nat} (h : i < 4) : ∃ z : Str, nm4[i]? = some z ∧ atI [V.str "top", V.str "mid", V.str "low", V.str "abcdefgh"] ((0 : Int) + i) = some (.str z) ∧ nameOk z = true := by
  have : i = 0 ∨ i = 1 ∨ i = 2 ∨ i = 3 := by omega
  rcases this with rfl | rfl | rfl | rfl
  · exact ⟨_, rfl, rfl, by decide +kernel⟩
  · exact ⟨_, rfl, rfl, by decide +kernel⟩
  · exact ⟨_, rfl, rfl, by decide +kernel⟩
  · exact ⟨_, rfl, rfl, by decide +kernel⟩
theorem nm4_nodup : nm4.Nodup := by decide +kernel
structure PartsOk (rain : List Int) (bs : List Bar) : Prop where
  row : RowOk rain bs
  pos : 1 ≤ bs.length
  le4 : bs.length ≤ 4
  nms : bs.map Bar.name = nm4.take bs.length
  len5 : rain.length ≤ 5
theorem PartsOk.nodup {rain : List Int} {bs : List Bar} (p : PartsOk rain bs) : (bs.map Bar.name).Nodup := by
  rw [p.nms]
  exact (List.take_sublist _ _).nodup nm4_nodup
section
variable {P : Program} {w : World} {K : PySem.W.Frag} {mg : Str → Option Value} {base : Heap} {CP CR : Addr}
def spParts (K : PySem.W.Frag) : Sp := fun vs H Q _ => ∃ (h l : Addr) (most wide : Int), vs = [.ref h, .int most, .int wide] ∧ HSt H h l ∧ 1 ≤ most ∧ most ≤ 5 ∧ 1 ≤ wide ∧ wide ≤ 1000001 ∧
  ∀ (H' : Hp) (p ra ba : Addr) (rain : List Int) (bs : List Bar), KeepL [h, l] H H' → HSt H' h l → H' p = some (.tup [.ref ra, .ref ba]) → H' ra = some (.tup (rain.map V.int)) → BarsAt K H' ba bs → PartsOk rain bs → Q (.ref p) H'
theorem ok_parts {f : Addr} {fd : FuncData} (F : Fun K "_law_parts" "_law_parts" s_law_parts f fd) (T : Txt K mg CP CR) (c_law_next : Callee P w K mg base "_law_next" 1 (spNext K)) : FnOk P w K mg base CX0 2 f fd P_law_parts (spParts K) := by
  refine F.ok sc_law_parts (fun vs H Q E h => ?_) (fun cdv A outer s H vs Q E hr h => ?_)
  · obtain ⟨h, l, most, wide, rfl, _⟩ := h
    rfl
  · obtain ⟨h, l, most, wide, rfl, hH, hm1, hm5, hw1, hw2, k⟩ := h
    refine ⟨_, (pss_cons (ps_par (i := 3) (j := 4) (by rfl) sc_law_parts.nd rfl rfl (by decide) rfl rfl (pa_cons (pe_op op_add pe_int (pe_callF c_law_next (hr.mono (by decide)) (by rfl) (pa_cons (pv 0) (pa_cons (pv 1) pa_nil)))) (pa_cons (pe_lst pa_nil) pa_nil)) (by rfl))
      (pss_cons (ps_set (i := 5) sc_law_parts.nd rfl (.inl rfl) (pe_callTy call_tuple_of (by rfl) T.n_tuple bt_tuple (pa_cons (pe_lc (own := [("_law_k", 6)]) (g := gName 6) (by rfl) sc_law_parts.nd (pi_range1 (by rfl) T.n_range (pa_cons (pv 3) pa_nil)) (blkOk_by (own := [("_law_k", 6)]) (N := N_law_parts) (sc := defScope s_law_parts) (by decide +kernel)) (fun _ _ _ _ _ => (pg_name (i := 6) sc_law_parts.nd rfl (.inl rfl))) (fun _ _ _ _ _ => pts_nil) (fun _ _ _ _ _ => (pe_op op_mul (pe_callF c_law_next (hr.mono (by decide)) (by rfl) (pa_cons (pv 0) (pa_cons (pv 2) pa_nil))) (pe_callTy call_int1 (by rfl) T.n_int bt_int (pa_cons (pe_cmpR op_gt (pe_callF c_law_next (hr.mono (by decide)) (by rfl) (pa_cons (pv 0) (pa_cons pe_int pa_nil))) pe_int (nomark _)) pa_nil))))) pa_nil)))
      (pss_cons (ps_for PassesOwn.never rfl (pi_range1 (by rfl) T.n_range (pa_cons (pe_op op_add pe_int (pe_callF c_law_next (hr.mono (by decide)) (by rfl) (pa_cons (pv 0) (pa_cons pe_int pa_nil)))) pa_nil)) (pg_name (i := 6) sc_law_parts.nd rfl (.inl rfl))
        (pss_cons (ps_set (i := 7) sc_law_parts.nd rfl (.inl rfl) (pe_ix ix_list (pe_lst (pa_cons pe_str (pa_cons pe_str (pa_cons pe_str (pa_cons pe_str pa_nil))))) (pv 6) (fun _ _ => rfl)))
      (pss_cons (ps_set (i := 8) sc_law_parts.nd rfl (.inl rfl) (pe_callTy call_tuple_of (by rfl) T.n_tuple bt_tuple (pa_cons (pe_lc (own := [("_law_one", 9)]) (g := gName 9) (by rfl) sc_law_parts.nd (pi_range1 (by rfl) T.n_range (pa_cons (pv 3) pa_nil)) (blkOk_by (own := [("_law_one", 9)]) (N := N_law_parts) (sc := defScope s_law_parts) (by decide +kernel)) (fun _ _ _ _ _ => (pg_name (i := 9) sc_law_parts.nd rfl (.inl rfl))) (fun _ _ _ _ _ => pts_nil) (fun _ _ _ _ _ => (pe_op op_mul (pe_callF c_law_next (hr.mono (by decide)) (by rfl) (pa_cons (pv 0) (pa_cons (pe_op op_mul pe_int (pv 2)) pa_nil))) (pe_callTy call_int1 (by rfl) T.n_int bt_int (pa_cons (pe_cmpR op_gt (pe_callF c_law_next (hr.mono (by decide)) (by rfl) (pa_cons (pv 0) (pa_cons pe_int pa_nil))) pe_int (nomark _)) pa_nil))))) pa_nil)))
      (pss_one (ps_expr (pe_bm PySem.F.plainAttrs_list PySem.F.slot_list_append PySem.F.type_list_append mt_append (pv 4) (pa_cons (pe_tup (pa_cons (pv 7) (pa_cons (pe_callF c_law_next (hr.mono (by decide)) (by rfl) (pa_cons (pv 0) (pa_cons (pe_op op_mul pe_int (pv 2)) pa_nil))) (pa_cons (pe_callF c_law_next (hr.mono (by decide)) (by rfl) (pa_cons (pv 0) (pa_cons pe_int pa_nil))) (pa_cons (pv 8) pa_nil))))) pa_nil)))))))
      (pss_one (ps_ret (pe_tup (pa_cons (pv 5) (pa_cons (pe_callTy call_tuple_of (by rfl) T.n_tuple bt_tuple (pa_cons (pv 4) pa_nil)) pa_nil)))))))), ?_⟩
    refine ⟨_, rfl, _, rfl, h, l, most, rfl, hH, by omega, by omega, fun z0 H1 z00 z01 k1 s1 => ⟨_, _, rfl, rfl, by decide, fun fl nfl => ⟨_, _, rfl, ?_⟩⟩⟩
    have nfl0 : fl ∉ [h, l] := s1.not nfl
    have k2 := k1.tr (KeepL.sm (same_new (o := .lst []) nfl))
    have s2 := s1.mono (same_new (o := .lst []) nfl)
    have hf2 : (upd H1 fl (.lst [])) fl = some (.lst []) := upd_same
    generalize upd H1 fl (.lst []) = H2 at k2 s2 hf2
    refine ⟨_, rfl, _, rfl, by omega, by omega, fun D nD => lc_nx walk_range (by omega) (fun y => ∃ z, y = V.int z ∧ 0 ≤ z ∧ z ≤ wide - 1) nD s2 (fun _ _ _ _ y => y.1) (fun i x H3 hi k3 s3 y R0 hR => ?_) (fun H3 ys k3 s3 e3 hl hg => ?_)⟩
    · cases y.2
      refine ⟨rfl, ?_⟩
      refine ⟨_, rfl, _, rfl, h, l, _, rfl, s3, by omega, by omega, fun y1 H4 y10 y11 k4 s4 => ?_⟩
      refine ⟨_, rfl, h, l, _, rfl, s4, by decide, by decide, fun y2 H5 y20 y21 k5 s5 => ⟨_, _, rfl, rfl, .inr ⟨_, rfl, _, _, rfl, rfl, .inl ⟨by omega, by omega⟩, ?_⟩⟩⟩
      refine hR _ _ ⟨_, rfl, ?_, ?_⟩ (k4.tr k5) s5
      · split <;> omega
      · split <;> omega
    · obtain ⟨rain, rfl, hrl, hrb⟩ := ints_of hg
      refine ⟨D, _, rfl, .inl ⟨SqL.of e3, fun ra nra => ?_⟩⟩
      have hlr : rain.length = (1 + z0).toNat := by rw [hrl]; exact hl
      have sr := same_new (o := .tup (rain.map V.int)) nra
      have k4 := k3.tr (KeepL.sm sr)
      have s4 := s3.mono sr
      have hra4 : (upd H3 ra (.tup (rain.map V.int))) ra = some (.tup (rain.map V.int)) := upd_same
      have hf4 := sr _ _ (k3 _ _ hf2 nfl0)
      have nrf : ra ≠ fl := (ne_of_none (k3 _ _ hf2 nfl0) nra).symm
      generalize upd H3 ra (.tup (rain.map V.int)) = H4 at k4 s4 hra4 hf4
      have k04 := k2.tr k4
      have nra0 := s4.tupl hra4
      refine ⟨_, rfl, h, l, _, rfl, s4, by decide, by decide, fun z1 H5 z10 z11 k5 s5 => ⟨_, _, rfl, rfl, _, rfl, by omega, by omega, ?_⟩⟩
      have hn0 : (1 + z1).toNat ≤ 4 := by omega
      have hfl0 : H fl = none := by
        cases e : H fl with
        | none => rfl
        | some o =>
          have := k1 _ _ e nfl0
          rw [nfl] at this
          cases this
      refine for_it walk_range (fun i σ H' => KeepL [h, l] H H' ∧ HSt H' h l ∧ H' ra = some (.tup (rain.map V.int)) ∧ ∃ (vs : List V) (bs : List Bar) (x6 x7 x8 : Option V), H' fl = some (.lst vs) ∧ vs.length = bs.length ∧ bs.length = i ∧ (∀ (i : Nat) (v : V) (b : Bar), vs[i]? = some v → bs[i]? = some b → BarAt K H' v b) ∧
        bs.map Bar.name = nm4.take i ∧ (∀ b ∈ bs, barOk rain.length b) ∧ σ = [some (.ref h), some (.int most), some (.int wide), some (.int (1 + z0)), some (.ref fl), some (.ref ra), x6, x7, x8, none])
        ⟨k04.tr k5, s5, k5 _ _ hra4 nra0, [], [], none, none, none, k5 _ _ hf4 nfl0, rfl, rfl, (fun i v b h => by simp at h), rfl, (fun b h => by cases h), rfl⟩ (fun i σ H' _ p => trivial) ?_ ?_
      · rintro i x σ H7 H6 hi ⟨k6, s6, hra, vs, bs, x6, x7, x8, hbl, hvl, hbi, hbar, hnm, hok, rfl⟩ ⟨rfl, rfl⟩
        -- the name
        refine ⟨by show 4 ≤ sizeLine; decide, fun q2 nq2 => ?_⟩
        obtain ⟨nm, hnm1, hnm2, hnm3⟩ := nm4_get (show i < 4 by omega)
        have sq := same_new (o := .lst [V.str "top", V.str "mid", V.str "low", V.str "abcdefgh"]) nq2
        have s7 := s6.mono sq
        refine ⟨_, rfl, q2, _, _, _, rfl, rfl, SqL.of upd_same, hnm2, ?_⟩
        generalize upd H6 q2 (.lst [V.str "top", V.str "mid", V.str "low", V.str "abcdefgh"]) = H7 at sq s7
        -- the wishes
        refine ⟨_, rfl, _, rfl, by omega, by omega, fun D nD => lc_nx walk_range (by omega) (fun y => ∃ z, y = V.int z ∧ 0 ≤ z ∧ z ≤ 2000002) nD s7 (fun _ _ _ _ y => y.1) (fun i x H2 hi k7 s7 y R0 hR => ?_) (fun H8 ys k8 s8 e8 hl8 hg8 => ?_)⟩
        · cases y.2
          refine ⟨rfl, ?_⟩
          refine ⟨_, rfl, _, rfl, _, _, rfl, rfl, .inl ⟨by decide, by decide⟩, h, l, _, rfl, s7, by omega, by omega, fun y1 H4 y10 y11 k8 s8 => ?_⟩
          refine ⟨_, rfl, h, l, _, rfl, s8, by decide, by decide, fun y2 H5 y20 y21 k9 s9 => ⟨_, _, rfl, rfl, .inr ⟨_, rfl, _, _, rfl, rfl, .inl ⟨by omega, by omega⟩, ?_⟩⟩⟩
          refine hR _ _ ⟨_, rfl, ?_, ?_⟩ (k8.tr k9) s9
          · split <;> omega
          · split <;> omega
        · obtain ⟨draws, rfl, hdl, hdb⟩ := ints_of hg8
          refine ⟨D, _, rfl, .inl ⟨SqL.of e8, fun dl ndl => ?_⟩⟩
          have hdlen : draws.length = rain.length := by rw [hdl, hl8, hlr]
          have sd := same_new (o := .tup (draws.map V.int)) ndl
          have k9 : KeepL [h, l] H6 (upd H8 dl (.tup (draws.map V.int))) := (KeepL.sm sq).tr (k8.tr (KeepL.sm sd))
          have s9 := s8.mono sd
          have hdl9 : (upd H8 dl (.tup (draws.map V.int))) dl = some (.tup (draws.map V.int)) := upd_same
          generalize upd H8 dl (.tup (draws.map V.int)) = H9 at k9 s9 hdl9
          have ndl0 := s9.tupl hdl9
          have hbl9 := k9 _ _ hbl nfl0
          refine ⟨_, rfl, .inl ⟨rfl, _, SqL.of hbl9⟩, _, rfl, _, rfl, _, rfl, _, _, rfl, rfl, .inl ⟨by decide, by decide⟩, h, l, _, rfl, s9, by omega, by omega, fun cap H10 c0 c1 k10 s10 => ?_⟩
          refine ⟨_, rfl, h, l, _, rfl, s10, by decide, by decide, fun rf H11 r0 r1 k11 s11 => ⟨_, rfl, by show 4 ≤ sizeLine; decide, fun t nt => ?_⟩⟩
          have st := same_new (o := .tup [V.str nm, .int cap, .int rf, .ref dl]) nt
          have k912 : KeepL [h, l] H9 (upd H11 t (.tup [V.str nm, .int cap, .int rf, .ref dl])) := k10.tr (k11.tr (KeepL.sm st))
          have k612 := k9.tr k912
          have s12 := s11.mono st
          have ht12 : (upd H11 t (.tup [V.str nm, .int cap, .int rf, .ref dl])) t = some (.tup [V.str nm, .int cap, .int rf, .ref dl]) := upd_same
          generalize upd H11 t (.tup [V.str nm, .int cap, .int rf, .ref dl]) = H12 at k912 k612 s12 ht12
          have hbl12 := k912 _ _ hbl9 nfl0
          have hdl12 := k912 _ _ hdl9 ndl0
          have hra12 := k612 _ _ hra nra0
          refine ⟨fl, _, _, rfl, rfl, hbl12, by rw [hvl, hbi]; exact Nat.lt_of_lt_of_le (by omega : i < 4) (by decide), ?_⟩
          have kL : KeepL [fl] H12 (upd H12 fl (.lst (vs ++ [.ref t]))) := fun b o e n => by rw [upd_ne (by simpa using n)]; exact e
          have hL : ∀ b ∈ [fl], ∃ ys, H12 b = some (.lst ys) := fun b hb => by rw [List.mem_singleton.mp hb]; exact ⟨_, hbl12⟩
          have hHL : ∀ b ∈ [h, l], ∃ ys, H6 b = some (.lst ys) := fun b hb => by
            obtain ⟨m, t, cs, q1, q2, _⟩ := s6
            rcases List.mem_cons.mp hb with q | q
            · rw [q]; exact ⟨_, q1⟩
            · rw [List.mem_singleton.mp q]; exact ⟨_, q2⟩
          refine ⟨fun b o e n => ?_, s12.upd nfl0, ?_, vs ++ [.ref t], bs ++ [⟨nm, cap, rf, draws⟩], _, _, _, upd_same, by rw [List.length_append, List.length_append, hvl]; rfl, by rw [List.length_append, hbi]; rfl, fun j v b hv hb => ?_, ?_, fun b hb => ?_, rfl⟩
          · rw [upd_ne (ne_of_none e hfl0)]
            exact k612 _ _ (k6 _ _ e n) n
          · rw [upd_ne nrf]
            exact hra12
          · by_cases hj : j < vs.length
            · rw [List.getElem?_append_left hj] at hv
              rw [List.getElem?_append_left (by omega)] at hb
              exact ((hbar j v b hv hb).keepL k612 hHL).keepL kL hL
            · rw [List.getElem?_append_right (by omega)] at hv
              rw [List.getElem?_append_right (by omega), ← hvl] at hb
              cases ej : j - vs.length with
              | succ m => rw [ej] at hv; simp at hv
              | zero =>
                rw [ej] at hv hb
                cases (Option.some.inj hv : V.ref t = v)
                cases Option.some.inj hb
                have ntb : t ≠ fl := ne_of ht12 hbl12 (by intro e; cases e)
                have ndb : dl ≠ fl := ne_of hdl12 hbl12 (by intro e; cases e)
                exact ⟨t, dl, rfl, .inl (.inl (by rw [upd_ne ntb]; exact ht12)), .inl (.inl (by rw [upd_ne ndb]; exact hdl12))⟩
          · rw [List.map_append, hnm, List.take_add_one, hnm1]
            rfl
          · rcases List.mem_append.mp hb with q | q
            · exact hok b q
            · rw [List.mem_singleton.mp q]
              exact ⟨hnm3, hdlen, c0, by show cap ≤ 1000000000; omega, r0, by show rf ≤ 100; omega, fun d hd => ⟨(hdb d hd).1, by have := (hdb d hd).2; omega⟩⟩
      · rintro σ H6 ⟨k6, s6, hra, vs, bs, x6, x7, x8, hbl, hvl, hbi, hbar, hnm, hok, rfl⟩
        refine ⟨_, rfl, _, rfl, fl, _, rfl, .inl ⟨SqL.of hbl, fun ba nba => ?_⟩⟩
        have sb := same_new (o := .tup vs) nba
        refine ⟨by show 2 ≤ sizeLine; decide, fun p np => ?_⟩
        have sp := same_new (o := .tup [V.ref ra, V.ref ba]) np
        have sbp := sb.trans sp
        refine k _ p ra ba rain bs (k6.tr (KeepL.sm sbp)) (s6.mono sbp) upd_same (sbp _ _ hra) ⟨vs, .inl (.inl (sp _ _ upd_same)), hvl, fun i v b hv hb => (hbar i v b hv hb).mono sbp⟩ ⟨⟨by omega, by omega, fun r hr => ⟨(hrb r hr).1, by have := (hrb r hr).2; omega⟩, hok, by omega⟩, by omega, by omega, by rw [hbi]; exact hnm, by omega⟩
end
end Bk
set_option Elab.async false
set_option maxRecDepth 100000
set_option maxHeartbeats 1000000
namespace Bk
open PySem L2
section
variable {P : Program} {w : World} {K : PySem.W.Frag} {mg : Str → Option Value} {base : Heap} {CP CR : Addr}
def spRowP (K : PySem.W.Frag) (CR : Addr) : Sp := fun vs H Q _ => ∃ (pa ra ba : Addr) (rain : List Int) (bs : List Bar), vs = [.ref pa] ∧ H pa = some (.tup [.ref ra, .ref ba]) ∧ SqT K H ra (rain.map V.int) ∧ BarsAt K H ba bs ∧ RowOk rain bs ∧ 1 ≤ bs.length ∧ (bs.map Bar.name).Nodup ∧ ∀ v H', Same H H' → RowAt K CR H' v rain bs → Q v H'
theorem ok_lrowP {f : Addr} {fd : FuncData} (F : Fun K "_law_row" "_law_row" s_law_row f fd) (T : Txt K mg CP CR) (c_Row__init : MakerR P w K mg base "Row" CR 4 (spRowInit K CR)) (c_Row__add : CalleeO P w K mg base CR "__add__" 6 (spRowAdd K CR)) (sf : PySem.W.selfFirst K CR = true) :
    FnOk P w K mg base CX0 7 f fd P_law_row (spRowP K CR) := by
  refine F.ok sc_law_row (fun vs H Q E h => ?_) (fun cdv A outer s H vs Q E hr h => ?_)
  · obtain ⟨pa, ra, bl, rain, bs, rfl, _⟩ := h
    rfl
  · obtain ⟨pa, ra, bl, rain, bs, rfl, hpa, hra, ⟨vs, hv1, hv2, hv3⟩, ok, hb1, hnd, k⟩ := h
    refine ⟨_, (pss_cons (ps_set (i := 1) sc_law_row.nd rfl (.inl rfl) (pe_makeFR c_Row__init (hr.mono (by decide)) (by rfl) (pa_cons (pe_ix ix_tup (pv 0) pe_int (fun _ _ => rfl)) (pa_cons (pe_ix ix_tup (pe_ix ix_tup (pv 0) pe_int (fun _ _ => rfl)) pe_int (fun _ _ => rfl)) pa_nil))))
      (pss_cons (ps_for PassesOwn.never rfl (pi_tup (pe_slice sl_tupS (pe_ix ix_tup (pv 0) pe_int (fun _ _ => rfl)) (po_some pe_int) po_none)) (pg_name (i := 2) sc_law_row.nd rfl (.inl rfl))
        (pss_one (ps_set (i := 1) sc_law_row.nd rfl (.inl rfl) (pe_op (op_own c_Row__add T.sf_Row (hr.mono (by decide))) (pv 1) (pe_makeFR c_Row__init (hr.mono (by decide)) (by rfl) (pa_cons (pe_ix ix_tup (pv 0) pe_int (fun _ _ => rfl)) (pa_cons (pv 2) pa_nil)))))))
      (pss_one (ps_ret (pv 1))))), ?_⟩
    have h0 : bs[0]? = some bs[0] := List.getElem?_eq_getElem (by omega)
    obtain ⟨v0, hv0⟩ : ∃ v0, vs[0]? = some v0 := ⟨_, List.getElem?_eq_getElem (by omega)⟩
    have hsub : ∀ b ∈ bs, RowOk rain [b] := fun b hb => ok.sub (fun c hc => by rw [List.mem_singleton.mp hc]; exact hb) hb1
    -- Row(rain, barrels[0])
    refine ⟨_, rfl, pa, _, _, _, rfl, rfl, .inl (.inl hpa), rfl, _, rfl, pa, _, _, _, rfl, rfl, .inl (.inl hpa), rfl, bl, _, _, v0, rfl, rfl, hv1, at_of (j := 0) rfl hv0, fun x dx nx ndx nex => ?_⟩
    have s1 := (same_new ndx (o := .own x)).trans (same_new (o := .ins CR dx []) (by rw [upd_ne (Ne.symm nex)]; exact nx))
    refine ⟨x, dx, ra, rain, [bs[0]], [v0], rfl, upd_same, same_t s1 hra, rfl, fun i v b hv hb => ?_, hsub _ (List.getElem_mem _), by simp, by simp, fun H1 kp hrow => ⟨rfl, ?_⟩⟩
    · cases i with
      | zero =>
        cases (Option.some.inj hv : v0 = v)
        cases (Option.some.inj hb : bs[0] = b)
        exact (hv3 0 _ _ hv0 h0).mono s1
      | succ i => simp at hv
    have s2 : Same H H1 := fun b o e => kp _ _ (s1 _ _ e) (ne_of_none e nx)
    refine ⟨_, rfl, pa, _, _, _, rfl, rfl, .inl (.inl (s2 _ _ hpa)), rfl, _, rfl, bl, _, rfl, same_t s2 hv1, fun q H1' sq hq => ?_⟩
    rw [show (1 : Int) = ((1 : Nat) : Int) from rfl, cutV_from (by omega)] at hq
    have s3 := s2.trans sq
    refine ⟨q, rfl, ⟨_, hq⟩, for_it walk_tup (fun i σ H' => Same H1' H' ∧ ∃ (v : V) (x3 : Option V), RowAt K CR H' v rain (bs.take (i + 1)) ∧ σ = [some (.ref pa), some v, x3]) ⟨Same.refl _, .ref x, none, ?_, rfl⟩ (fun i σ H' _ p => same_t p.1 hq) ?_ ?_⟩
    · have e : bs.take (0 + 1) = [bs[0]] := by rw [List.take_add_one, h0]; rfl
      rw [e]
      exact hrow.mono sq
    · rintro i y σ H2 H3 hi ⟨s4, v, x3, hr1, rfl⟩ ⟨rfl, hy⟩
      have s5 := s3.trans s4
      rw [List.length_drop] at hi
      have hy : vs[i + 1]? = some y := by rw [List.getElem?_drop] at hy; rw [Nat.add_comm]; exact hy
      have hbi : bs[i + 1]? = some bs[i + 1] := List.getElem?_eq_getElem (by omega)
      have hbar := (hv3 _ _ _ hy hbi).mono s5
      obtain ⟨a, dx1, r1, b1, rfl, g1, g2, g3⟩ := id hr1
      refine ⟨_, rfl, _, rfl, pa, _, _, _, rfl, rfl, .inl (.inl (s5 _ _ hpa)), rfl, _, rfl, fun z dz nz ndz nez => ?_⟩
      have s6 := (same_new ndz (o := .own z)).trans (same_new (o := .ins CR dz []) (by rw [upd_ne (Ne.symm nez)]; exact nz))
      refine ⟨z, dz, ra, rain, [bs[i + 1]], [y], rfl, upd_same, same_t (s5.trans s6) hra, rfl, fun j v b hv hb => ?_, hsub _ (List.getElem_mem _), by simp, by simp, fun H4 kp4 hrow4 => ⟨rfl, ?_⟩⟩
      · cases j with
        | zero =>
          cases (Option.some.inj hv : y = v)
          cases (Option.some.inj hb : bs[i + 1] = b)
          exact hbar.mono s6
        | succ j => simp at hv
      have s7 : Same H3 H4 := fun b o e => kp4 _ _ (s6 _ _ e) (ne_of_none e nz)
      obtain ⟨a', dx', r', b', ea, g1', g2', g3'⟩ := id hrow4
      cases ea
      have etk : bs.take (i + 1) ++ [bs[i + 1]] = bs.take (i + 1 + 1) := by rw [List.take_add_one (i := i + 1), hbi]; rfl
      refine ⟨a, z, _, _, _, _, rfl, rfl, s7 _ _ g1, g1', _, _, rain, bs.take (i + 1), [bs[i + 1]], rfl, hr1.mono s7, hrow4, ?_, by rw [List.length_take]; omega, by simp, ?_, fun v H5 s8 hrow5 => ?_⟩
      · rw [etk]; exact ok.take _
      · rw [etk, List.map_take]; exact (List.take_sublist _ _).nodup hnd
      · rw [etk] at hrow5
        exact ⟨(s4.trans s7).trans s8, v, _, hrow5, rfl⟩
    · rintro σ H2 ⟨s4, v, x3, hr1, rfl⟩
      rw [List.length_drop, show vs.length - 1 + 1 = bs.length by omega, List.take_length] at hr1
      exact ⟨_, rfl, k v H2 (s3.trans s4) hr1⟩
end
end Bk
set_option Elab.async false
set_option maxRecDepth 100000
set_option maxHeartbeats 1000000
namespace Bk
open PySem PySem.Spec PyProof.Rows L2 NdefX LamX
abbrev exF (st : Stmt) (qual : Str) (cda cc : Addr) : NF := ⟨"__init__", qual, defArgs st, defBody st, defScope st, [(clsS, cc)], cda⟩
section
variable {P : Program} {w : World} {K : PySem.W.Frag} {mg : Str → Option Value} {base : Heap} {CP CR : Addr}
def spUnkI (C : Addr) : Sp := fun vs H Q _ => ∃ (a : Addr) (z : Str), vs = [.ref a, .str z] ∧ H a = some (exo a C none) ∧ (reprText z).length ≤ 1000 ∧ ∀ dx, H dx = none → dx ≠ a → Q .non (upd (upd H dx (exd dx [("name", .str z)])) a (exo a C (some dx)))
theorem ok_unk_init {CX : CXT} {f cda cc C : Addr} {oc doc pm ctv : Value} {od : Option Addr} {osl : Array (Option Value)} (U : SupOk P K mg C (exF s_UnknownBarrel_init "UnknownBarrel.__init__" cda cc) cc)
    (lk : K.lookup f = some ⟨oc, od, .func ((exF s_UnknownBarrel_init "UnknownBarrel.__init__" cda cc).fd doc pm ctv), osl⟩) (hno : PySem.W.findIn K (.ref C) "name" = some none) :
    FnOk P w K mg base CX 2 f ((exF s_UnknownBarrel_init "UnknownBarrel.__init__" cda cc).fd doc pm ctv) P_UnknownBarrel_init (spUnkI C) := by
  refine fn_super (k := 1) U lk nsc_UnknownBarrel_init (show (defScope s_UnknownBarrel_init).names.lookup ("super" : Str) = some .globalImplicit by decide +kernel) rfl rfl rfl (fun vs H Q E h => ?_) (fun env => rfl) (fun env => rfl) (fun env => rfl) (fun A outer s H vs Q E hr h => ?_)
  · obtain ⟨a, z, rfl, _⟩ := h
    rfl
  · obtain ⟨a, z, rfl, ha, hz, k⟩ := h
    refine ⟨_, _, a, rfl, ha, pe_joined (.cons pe_str (.cons (pe_fmtR (pv 1)) .nil)), pss_one (ps_ost (pv 0) (pv 1)), ?_⟩
    refine ⟨_, rfl, by decide, _, rfl, .inl ⟨z, rfl, Nat.le_trans hz (by decide), _, rfl, ?_, rfl, ha, ?_⟩⟩
    · rw [Str.length_append]
      exact Nat.le_trans (Nat.add_le_add_left hz _) (by decide)
    · exact ⟨_, rfl, _, rfl, a, C, rfl, U.T, hno, .inl ⟨ha, fun dx n ne => k dx n ne⟩⟩
theorem unk_raise {H : Hp} {C : Addr} {z : Str} {Q : XK} (hz : (reprText z).length ≤ 1000) (k : ∀ d H', Same H H' → H d = none → H' d = some (.xd [("name", .str z)]) → Q (.ref C) (some d) H') (a : Addr) (ha : H a = none) :
    spUnkI C ([.ref a] ++ [.str z]) (upd H a (exo a C none)) (fun v H2 => v = .non ∧ ∃ (d : Addr) (fs : List (Str × V)), H2 a = some (exo a C (some d)) ∧ H2 d = some (exd d fs) ∧ H d = none ∧ Q (.ref C) (some d) (upd (L2.del H2 a) d (.xd fs))) (fun _ _ _ => False) :=
  ⟨a, z, rfl, upd_same, hz, fun d hd hda => ⟨rfl, d, _, upd_same, by rw [upd_ne hda]; exact upd_same, by rw [upd_ne hda] at hd; exact hd, k d _ (raise_same ha hd hda) (by rw [upd_ne hda] at hd; exact hd) upd_same⟩⟩
def spPlaceOfX (K : PySem.W.Frag) (CR CU : Addr) : Sp := fun vs H Q E => ∃ (v : V) (rain : List Int) (bs : List Bar) (z : Str), vs = [v, .str z] ∧ RowAt K CR H v rain bs ∧ (bs.map Bar.name).Nodup ∧ bs.length ≤ 1000 ∧ (reprText z).length ≤ 1000 ∧
  (∀ i b H', bs[i]? = some b → b.name = z → Same H H' → Q (.int (i : Nat)) H') ∧ (z ∉ bs.map Bar.name → ∀ d H', Same H H' → H d = none → H' d = some (.xd [("name", .str z)]) → E (.ref CU) (some d) H')
theorem ok_place_ofX {f CU : Addr} {fd : FuncData} (F : Fun K "place_of" "place_of" s_place_of f fd) (T : Txt K mg CP CR) (c_Row_names : CalleeP P w K mg base CR "names" 1 (spRowNames K CR)) (e_UnknownBarrel : ExK P w K mg base "UnknownBarrel" CU ["name"] 2 (spUnkI CU)) :
    FnOk P w K mg base (L2.CX P w) 4 f fd P_place_of (spPlaceOfX K CR CU) := by
  refine F.okX sc_place_of (fun vs H Q E h => ?_) (fun cdv A outer s H vs Q E hr h => ?_)
  · obtain ⟨v, rain, bs, z, rfl, _⟩ := h
    rfl
  · obtain ⟨v, rain, bs, z, rfl, hr0, hnd, hb, hz, k, kx⟩ := h
    obtain ⟨a, dx, ra, ba, rfl, h1, h2, h3⟩ := id hr0
    have tk : Takes (cxOf (L2.CX P w) P w K mg base N_place_of "place_of" (defScope s_place_of) f cdv A outer s H E) (fun cls d _ H => E cls d H) := takes_of rfl rfl rfl rfl
    refine ⟨_, (pss_cons (ps_for (passes_of rfl) rfl (pi_enumM false (by rfl) T.n_enumerate (pa_cons (pe_propF c_Row_names (hr.mono (by decide)) (pv 0) rfl) pa_nil)) (pg_tup rfl (pgs_cons (pg_name (i := 2) sc_place_of.nd rfl (.inl rfl)) (pgs_cons (pg_name (i := 3) sc_place_of.nd rfl (.inl rfl)) pgs_nil)))
        (pss_one (ps_if (pt_cmpR op_eq (pv 3) (pv 1) (nomark _))
        (pss_one (ps_ret (pv 2)))
        pss_nil)))
      (pss_one (ps_raise rfl tk (pmk_exK e_UnknownBarrel (hr.mono (by decide)) (by rfl) (pk_cons (pv 1) pk_nil))))), ?_⟩
    refine ⟨_, rfl, a, dx, _, rfl, h1, _, rain, bs, rfl, hr0, hb, fun p H1 s1 e1 => ?_⟩
    refine ⟨p, _, rfl, .inl (.inl e1), for_it walk_enumM (fun j σ H' => Same H1 H' ∧ (∀ i b, i < j → bs[i]? = some b → b.name ≠ z) ∧ ∃ x y, σ = [some (.ref a), some (.str z), x, y]) ⟨Same.refl _, fun i b hi => absurd hi (Nat.not_lt_zero _), _, _, rfl⟩ (fun j σ H' _ q => .inl (.inl (q.1 _ _ e1))) ?_ ?_⟩
    · rintro j x σ H2 H3 hj ⟨s2, hji, x0, y0, rfl⟩ ⟨t, z1, z2, rfl, nt, rfl, w1, w2⟩
      cases w1
      have w2 : (names bs)[j]? = some z2 := w2
      have hjl : j < bs.length := by unfold names at hj; simpa using hj
      have hbj : bs[j]? = some bs[j] := List.getElem?_eq_getElem hjl
      have ez : z2 = .str bs[j].name := by
        unfold names at w2
        rw [List.getElem?_map, nth_name hbj] at w2
        exact (Option.some.inj w2).symm
      subst ez
      have s3 := (s1.trans s2).trans (same_new (o := .tup [.int (j : Nat), .str bs[j].name]) nt)
      refine ⟨t, _, rfl, .inl (.inl upd_same), rfl, _, _, rfl, _, _, rfl, rfl, ?_⟩
      refine ⟨_, rfl, _, rfl, rfl, _, rfl, ite2 (fun c => ?_) (fun c => ?_)⟩
      · exact ⟨_, rfl, k j _ _ hbj (V.str.inj (of_decide_eq_true c)) s3⟩
      · have c : bs[j].name ≠ z := fun e => c (decide_eq_true (by rw [e]))
        refine ⟨s2.trans (same_new nt), fun i b hi hb' => ?_, _, _, rfl⟩
        by_cases e : i = j
        · subst e
          rw [hbj] at hb'
          rw [← Option.some.inj hb']
          exact c
        · exact hji i b (by omega) hb'
    · rintro σ H2 ⟨s2, hji, x0, y0, rfl⟩
      have hno : z ∉ bs.map Bar.name := fun hm => by
        obtain ⟨i, hi⟩ := List.mem_iff_getElem?.mp hm
        rw [List.getElem?_map] at hi
        cases hbi : bs[i]? with
        | none => rw [hbi] at hi; cases hi
        | some b =>
          rw [hbi] at hi
          refine hji i b ?_ hbi (Option.some.inj hi)
          have := (List.getElem?_eq_some_iff.mp hbi).1
          unfold names
          simpa using this
      exact ⟨_, rfl, rfl, unk_raise hz fun d H' s d0 d1 => kx hno d H' ((s1.trans s2).trans s) ((s1.trans s2).free d0) d1⟩
end
end Bk
set_option Elab.async false
set_option maxRecDepth 100000
set_option maxHeartbeats 1000000
namespace Bk
open PySem PySem.Spec PyProof.Rows L2 LamX
/-! ### what stays when only the tables grow -/
theorem sqt_n {K : PySem.W.Frag} {H H' : Hp} {a : Addr} {xs : List V} (e : ExtN H H') (h : SqT K H a xs) : SqT K H' a xs := by
  rcases h with (h | ⟨o, h⟩) | h
  · exact .inl (.inl (e _ _ h (fun ps z => by cases z)))
  · exact .inl (.inr ⟨o, e _ _ h (fun ps z => by cases z)⟩)
  · exact .inr h
theorem BarAt.monoN {K : PySem.W.Frag} {H H' : Hp} {v : V} {b : Bar} (e : ExtN H H') (h : BarAt K H v b) : BarAt K H' v b := by
  obtain ⟨t, d, e1, h1, h2⟩ := h
  exact ⟨t, d, e1, sqt_n e h1, sqt_n e h2⟩
theorem BarsAt.monoN {K : PySem.W.Frag} {H H' : Hp} {a : Addr} {bs : List Bar} (e : ExtN H H') (h : BarsAt K H a bs) : BarsAt K H' a bs := by
  obtain ⟨vs, h1, h2, h3⟩ := h
  exact ⟨vs, sqt_n e h1, h2, fun i v b hv hb => (h3 i v b hv hb).monoN e⟩
theorem RowAt.monoN {K : PySem.W.Frag} {CR : Addr} {H H' : Hp} {v : V} {rain : List Int} {bs : List Bar} (e : ExtN H H') (h : RowAt K CR H v rain bs) : RowAt K CR H' v rain bs := by
  obtain ⟨a, dx, ra, ba, e1, h1, h2, h3⟩ := h
  exact ⟨a, dx, ra, ba, e1, e _ _ h1 (fun ps z => by cases z), sqt_n e h2, h3.monoN e⟩
theorem Same.toN {H H' : Hp} (e : Same H H') : ExtN H H' := fun b o h _ => e b o h
/-- a def whose code object is known -/
structure FunC (K : PySem.W.Frag) (x qual : Str) (st : Stmt) (cdv : Value) (f : Addr) (fd : FuncData) : Prop where
  ex : ∃ (oc : Value) (od : Option Addr) (kV doc pm : Value) (an : Option Addr) (ct : Value) (osl : Array (Option Value)),
    fd = PySem.W.fnOf x qual (defArgs st) (defBody st) (defScope st) .none kV doc pm an cdv ct ∧ K.lookup f = some ⟨oc, od, .func fd, osl⟩ ∧ PySem.W.codeIn K cdv qual = true
theorem FunC.ok {P : Program} {w : World} {K : PySem.W.Frag} {mg : Str → Option Value} {base : Heap} {x qual : Str} {st : Stmt} {cdv : Value} {f : Addr} {fd : FuncData} {N ps : List Str} {k : Nat} {sp : Sp} (F : FunC K x qual st cdv f fd) (S : FnScope N ps (defScope st)) (len : ∀ vs H Q E, sp vs H Q E → vs.length = ps.length)
    (hbody : ∀ (A : Around) (outer : List Env) (s : Shared) (H : Hp) (vs : List V) (Q : VK) (E : XK), Room k (A.deeper (envOfC qual (defScope st) s.heap.objs.size f cdv)) → sp vs H Q E →
      ∃ t, PSs (cxOf CX0 P w K mg base N qual (defScope st) f cdv A outer s H E).nox (defBody st) t ∧ t { nx := fun _ H' => Q .non H', rt := Q } (start N vs) H) : FnOk P w K mg base CX0 (k + 1) f fd ps sp := by
  obtain ⟨oc, od, kV, doc, pm, an, ct, osl, rfl, lk, hcd⟩ := F.ex
  refine fn_of lk hcd S len fun A outer s H vs Q E hr hsp => ?_
  obtain ⟨t, h, q⟩ := hbody A outer s H vs Q E hr hsp
  exact ⟨t, h.nox, q⟩
end Bk
set_option Elab.async false
set_option maxRecDepth 100000
set_option maxHeartbeats 1000000
namespace Bk
open PySem PySem.Spec PyProof.Rows L2 LamX
theorem sql_n {K : PySem.W.Frag} {H H' : Hp} {a : Addr} {xs : List V} (e : ExtN H H') (h : SqL K H a xs) : SqL K H' a xs := by
  rcases h with (h | ⟨o, h⟩) | h
  · exact .inl (.inl (e _ _ h (fun ps z => by cases z)))
  · exact .inl (.inr ⟨o, e _ _ h (fun ps z => by cases z)⟩)
  · exact .inr h
theorem St4.monoN {H H' : Hp} {st a : Addr} (e : ExtN H H') (h : St4 H st a) : St4 H' st a := by
  obtain ⟨i, m, r, h1, h2⟩ := h
  exact ⟨i, m, r, e _ _ h1 (fun ps z => by cases z), h2⟩
theorem DrawSt.monoN {K : PySem.W.Frag} {H H' : Hp} {st a : Addr} {ns : List Int} (e : ExtN H H') (h : DrawSt K H st a ns) : DrawSt K H' st a ns := ⟨h.1.monoN e, sql_n e h.2⟩
theorem Tabs.kp {T : List (Addr × Str)} {H H' : Hp} {p : Addr} {xs : List V} (t : Tabs T H) (k : Kp p H H') (h : H p = some (.lst xs)) : Tabs T H' := fun q hq => by
  obtain ⟨ps, h1, h2, h3⟩ := t q hq
  refine ⟨ps, k _ _ h1 (fun z => by rw [z, h] at h1; cases h1), h2, fun pos cv hc => ?_⟩
  obtain ⟨c, e1, e2⟩ := h3 pos cv hc
  exact ⟨c, e1, k _ _ e2 (fun z => by rw [z, h] at e2; unfold CodeO at e2; cases e2)⟩
theorem Tabs.kpD {K : PySem.W.Frag} {T : List (Addr × Str)} {H H' : Hp} {st a : Addr} {ns : List Int} (t : Tabs T H) (k : Kp st H H') (h : DrawSt K H st a ns) : Tabs T H' := by
  obtain ⟨ys, hy⟩ := h.1.is
  exact Tabs.kp t k hy
end Bk
set_option Elab.async false
set_option maxRecDepth 100000
set_option maxHeartbeats 4000000
namespace Bk
open PySem PySem.Spec PyProof.Rows L2 LamX
theorem bt_VE : bootBuiltins "ValueError" = some (.type "ValueError") := by decide +kernel
/-- the names that the law's outcome asks for -/
structure RowErr (K : PySem.W.Frag) (mg : Str → Option Value) (CS c0 c1 c2 c3 c4 c5 c6 c7 : Addr) : Prop where
  mS : mg "RowError" = some (.ref CS)
  m0 : mg "DaybookError" = some (.ref c0)
  m1 : mg "DecodeError" = some (.ref c1)
  m2 : mg "InvalidNumber" = some (.ref c2)
  m3 : mg "InvalidOperation" = some (.ref c3)
  m4 : mg "InvalidRow" = some (.ref c4)
  m5 : mg "InvalidText" = some (.ref c5)
  m6 : mg "InvalidWeather" = some (.ref c6)
  m7 : mg "UnknownBarrel" = some (.ref c7)
  nVE : mg "ValueError" = none
/-- an error of the class D, the j-th of them -/
structure KindR (K : PySem.W.Frag) (CS c0 c1 c2 c3 c4 c5 c6 c7 D : Addr) (j : Nat) : Prop where
  ex : ExcC K D
  xf : XfC K D
  exm : PySem.W.exmOne K (.ref D) (.ref CS) = some true
  k0 : PySem.W.kitOne K (.ref D) (.ref c0) = some (j == 0)
  k1 : PySem.W.kitOne K (.ref D) (.ref c1) = some (j == 1)
  k2 : PySem.W.kitOne K (.ref D) (.ref c2) = some (j == 2)
  k3 : PySem.W.kitOne K (.ref D) (.ref c3) = some (j == 3)
  k4 : PySem.W.kitOne K (.ref D) (.ref c4) = some (j == 4)
  k5 : PySem.W.kitOne K (.ref D) (.ref c5) = some (j == 5)
  k6 : PySem.W.kitOne K (.ref D) (.ref c6) = some (j == 6)
  k7 : PySem.W.kitOne K (.ref D) (.ref c7) = some (j == 7)
  ve : PySem.W.kitOne K (.ref D) (.type "ValueError") = some true
/-- the fields told of an error of the class D: the values of e's attributes ns are vs -/
def FldsE (K : PySem.W.Frag) (D : Addr) (d : Option Addr) (H : Hp) (ns : List Str) (vs : List V) : Prop :=
  ns.length = vs.length ∧ ∀ (i : Nat) (n : Str) (v : V), ns[i]? = some n → vs[i]? = some v → PySem.W.findIn K (.ref D) n = some none ∧ ∃ (dd : Addr) (fs : List (Str × V)), d = some dd ∧ H dd = some (.xd fs) ∧ fs.lookup n = some v
def fldsOf (j : Nat) : List Str := match j with
  | 0 => ["line"] | 1 => ["offset"] | 2 => [] | 3 => ["index"] | 4 => ["part", "index"] | 5 => ["line"] | 6 => ["part"] | _ => ["name"]
def wordOf (j : Nat) : Str := match j with
  | 0 => "daybook" | 1 => "code" | 2 => "number" | 3 => "operation" | 4 => "row" | 5 => "text" | 6 => "weather" | _ => "barrel"
/-- what the caller tells of an error that may come -/
def ErrO (K : PySem.W.Frag) (CS c0 c1 c2 c3 c4 c5 c6 c7 : Addr) (cls : Value) (d : Option Addr) (H : Hp) (Q : VK) : Prop := ∃ (D : Addr) (j : Nat) (vs : List V), cls = .ref D ∧ j < 8 ∧ KindR K CS c0 c1 c2 c3 c4 c5 c6 c7 D j ∧ DictOf H d ∧ FldsE K D d H (fldsOf j) vs ∧
  ∀ q H', Same H H' → H' q = some (.tup (.str (wordOf j) :: vs)) → Q (.ref q) H'
/-- the suite's reading -/
abbrev tsR (K : PySem.W.Frag) (c0 c1 c2 c3 c4 c5 c6 c7 : Addr) : Addr → Value → Option Addr → TS := fun b cls d =>
  tSeq (tAsg (tLst (tCons (tCB (rIsG K cls d b) (tCons (tVar 3) (tCons (tC (V.ref c0)) tNil))) (tCons (tCB (rIsG K cls d b) (tCons (tVar 3) (tCons (tC (V.ref c1)) tNil))) (tCons (tCB (rIsG K cls d b) (tCons (tVar 3) (tCons (tC (V.ref c2)) tNil))) tNil)))) (gName 1))
  (tSeq (tDrop (tBM K "list" rExtend (tVar 1) (tCons (tLst (tCons (tCB (rIsG K cls d b) (tCons (tVar 3) (tCons (tC (V.ref c3)) tNil))) (tCons (tCB (rIsG K cls d b) (tCons (tVar 3) (tCons (tC (V.ref c4)) tNil))) (tCons (tCB (rIsG K cls d b) (tCons (tVar 3) (tCons (tC (V.ref c5)) tNil))) tNil)))) tNil)))
  (tSeq (tDrop (tBM K "list" rExtend (tVar 1) (tCons (tLst (tCons (tCB (rIsG K cls d b) (tCons (tVar 3) (tCons (tC (V.ref c6)) tNil))) (tCons (tCB (rIsG K cls d b) (tCons (tVar 3) (tCons (tC (V.ref c7)) tNil))) tNil))) tNil)))
  (tSeq (tIfS (tOr (tTest (tOp rNe (tBM K "list" (rCntF K) (tVar 1) (tCons (tC (V.bl true)) tNil)) (tC (V.int 1)))) (tNot (tB (tCB (rIsG K cls d b) (tCons (tVar 3) (tCons (tC (V.ty "ValueError")) tNil)))))) (tRet (tTup (tCons (tC (V.str "other")) tNil))) tNext)
  (tSeq (tAsg (tOp (rIxL K) (tLst (tCons (tC (V.str "daybook")) (tCons (tC (V.str "code")) (tCons (tC (V.str "number")) (tCons (tC (V.str "operation")) (tCons (tC (V.str "row")) (tCons (tC (V.str "text")) (tCons (tC (V.str "weather")) (tCons (tC (V.str "barrel")) tNil))))))))) (tBM K "list" (rIndex K) (tVar 1) (tCons (tC (V.bl true)) tNil))) (gName 2))
  (tSeq (tIfS (tTest (tOp (rIn K false) (tVar 2) (tTup (tCons (tC (V.str "daybook")) (tCons (tC (V.str "text")) tNil))))) (tRet (tTup (tCons (tVar 2) (tCons (tXg K b cls d "line" (tVar 3)) tNil)))) tNext)
  (tSeq (tIfS (tTest (tOp rEq (tVar 2) (tC (V.str "row")))) (tRet (tTup (tCons (tVar 2) (tCons (tXg K b cls d "part" (tVar 3)) (tCons (tXg K b cls d "index" (tVar 3)) tNil))))) tNext)
  (tSeq (tIfS (tTest (tOp rEq (tVar 2) (tC (V.str "weather")))) (tRet (tTup (tCons (tVar 2) (tCons (tXg K b cls d "part" (tVar 3)) tNil)))) tNext)
  (tSeq (tIfS (tTest (tOp rEq (tVar 2) (tC (V.str "number")))) (tRet (tTup (tCons (tVar 2) tNil))) tNext)
  (tRet (tTup (tCons (tVar 2) (tCons (tIf (tTest (tOp rEq (tVar 2) (tC (V.str "code")))) (tXg K b cls d "offset" (tVar 3)) (tIf (tTest (tOp rEq (tVar 2) (tC (V.str "operation")))) (tXg K b cls d "index" (tVar 3)) (tXg K b cls d "name" (tVar 3)))) tNil))))))))))))
section
variable {CS c0 c1 c2 c3 c4 c5 c6 c7 : Addr}
theorem gives_outR {X : Cx} {q : Str} (n_isinstance : X.mg "isinstance" = none) (R : RowErr X.K X.mg CS c0 c1 c2 c3 c4 c5 c6 c7) (g : Addr) (cdv : Value) : GivesTo X N_law_outcome "_law_outcome" (defScope s_law_outcome) g cdv (defBody s_law_outcome) "_law_call" q (TTvs X.K "value" CS N_law_outcome 3 (tsR X.K c0 c1 c2 c3 c4 c5 c6 c7)) := by
    refine as_givesV (by decide +kernel) R.mS (by decide) (fun f => rfl) sc_law_outcome.nd rfl (by decide +kernel) (fun s H b oe cls d pn hz hf => ?_)
    have IS : CallR ((cxOf C8.CX0 X.prog X.w X.K X.mg X.base N_law_outcome "_law_outcome" (defScope s_law_outcome) g cdv X.A X.stack s H C8.E0).nox.suite b ((b, oe) :: pn)) (.builtin "isinstance") (rIsG X.K cls d b) := call_isG hz hf
    have XG : ∀ (n : Str) (p1 : Pos) {p2 : Pos}, PE ((cxOf C8.CX0 X.prog X.w X.K X.mg X.base N_law_outcome "_law_outcome" (defScope s_law_outcome) g cdv X.A X.stack s H C8.E0).nox.suite b ((b, oe) :: pn)) (.Attribute (.Name "e" p1) n p2) (tXg X.K b cls d n (tVar 3)) := fun n p1 {p2} => pe_xg (X := (cxOf C8.CX0 X.prog X.w X.K X.mg X.base N_law_outcome "_law_outcome" (defScope s_law_outcome) g cdv X.A X.stack s H C8.E0).nox) hz hf (pv 3)
    exact pss_cons (ps_set (i := 1) sc_law_outcome.nd rfl (.inl rfl) (pe_lst (pa_cons (pe_callB IS (by rfl) n_isinstance bt_isinstance (pa_cons (pv 3) (pa_cons (pe_glob (v := .ref c0) (by rfl) R.m0 rfl) pa_nil)))
        (pa_cons (pe_callB IS (by rfl) n_isinstance bt_isinstance (pa_cons (pv 3) (pa_cons (pe_glob (v := .ref c1) (by rfl) R.m1 rfl) pa_nil)))
        (pa_cons (pe_callB IS (by rfl) n_isinstance bt_isinstance (pa_cons (pv 3) (pa_cons (pe_glob (v := .ref c2) (by rfl) R.m2 rfl) pa_nil))) pa_nil)))))
      (pss_cons (ps_expr (pe_bm PySem.F.plainAttrs_list PySem.F.slot_list_extend PySem.F.type_list_extend mt_extend (pv 1) (pa_cons (pe_lst (pa_cons (pe_callB IS (by rfl) n_isinstance bt_isinstance (pa_cons (pv 3) (pa_cons (pe_glob (v := .ref c3) (by rfl) R.m3 rfl) pa_nil)))
        (pa_cons (pe_callB IS (by rfl) n_isinstance bt_isinstance (pa_cons (pv 3) (pa_cons (pe_glob (v := .ref c4) (by rfl) R.m4 rfl) pa_nil)))
        (pa_cons (pe_callB IS (by rfl) n_isinstance bt_isinstance (pa_cons (pv 3) (pa_cons (pe_glob (v := .ref c5) (by rfl) R.m5 rfl) pa_nil))) pa_nil)))) pa_nil)))
      (pss_cons (ps_expr (pe_bm PySem.F.plainAttrs_list PySem.F.slot_list_extend PySem.F.type_list_extend mt_extend (pv 1) (pa_cons (pe_lst (pa_cons (pe_callB IS (by rfl) n_isinstance bt_isinstance (pa_cons (pv 3) (pa_cons (pe_glob (v := .ref c6) (by rfl) R.m6 rfl) pa_nil)))
        (pa_cons (pe_callB IS (by rfl) n_isinstance bt_isinstance (pa_cons (pv 3) (pa_cons (pe_glob (v := .ref c7) (by rfl) R.m7 rfl) pa_nil))) pa_nil))) pa_nil)))
      (pss_cons (ps_if (PW.pt (pw_or (pt_cmpR op_ne (pe_bm PySem.F.plainAttrs_list PySem.F.slot_list_count PySem.F.type_list_count mt_countF (pv 1) (pa_cons pe_bl pa_nil)) pe_int (nomark _)) (pw_or1 (pt_not (pt_val (pe_callB IS (by rfl) n_isinstance bt_isinstance (pa_cons (pv 3) (pa_cons (pe_bltn (v := .ty "ValueError") (by rfl) R.nVE bt_VE rfl) pa_nil))))))))
        (pss_one (ps_ret (pe_tup (pa_cons pe_str pa_nil)))) pss_nil)
      (pss_cons (ps_set (i := 2) sc_law_outcome.nd rfl (.inl rfl) (pe_ix ix_list (pe_lst (pa_cons pe_str (pa_cons pe_str (pa_cons pe_str (pa_cons pe_str (pa_cons pe_str (pa_cons pe_str (pa_cons pe_str (pa_cons pe_str pa_nil)))))))))
        (pe_bm PySem.F.plainAttrs_list PySem.F.slot_list_index PySem.F.type_list_index mt_index (pv 1) (pa_cons pe_bl pa_nil)) (fun _ _ => rfl)))
      (pss_cons (ps_if (pt_cmpR op_in_seq (pv 2) (pe_tup (pa_cons pe_str (pa_cons pe_str pa_nil))) (by with_unfolding_all rfl)) (pss_one (ps_ret (pe_tup (pa_cons (pv 2) (pa_cons (XG _ _) pa_nil))))) pss_nil)
      (pss_cons (ps_if (pt_cmpR op_eq (pv 2) pe_str (nomark _)) (pss_one (ps_ret (pe_tup (pa_cons (pv 2) (pa_cons (XG _ _) (pa_cons (XG _ _) pa_nil)))))) pss_nil)
      (pss_cons (ps_if (pt_cmpR op_eq (pv 2) pe_str (nomark _)) (pss_one (ps_ret (pe_tup (pa_cons (pv 2) (pa_cons (XG _ _) pa_nil))))) pss_nil)
      (pss_cons (ps_if (pt_cmpR op_eq (pv 2) pe_str (nomark _)) (pss_one (ps_ret (pe_tup (pa_cons (pv 2) pa_nil)))) pss_nil)
      (pss_one (ps_ret (pe_tup (pa_cons (pv 2) (pa_cons (pe_ifExp (pt_cmpR op_eq (pv 2) pe_str (nomark _)) (XG _ _) (pe_ifExp (pt_cmpR op_eq (pv 2) pe_str (nomark _)) (XG _ _) (XG _ _))) pa_nil)))))))))))))
theorem errO {K : PySem.W.Frag} {cls : Value} {d : Option Addr} {H : Hp} {Q : VK} (h : ErrO K CS c0 c1 c2 c3 c4 c5 c6 c7 cls d H Q) :
    ∃ b, PySem.W.exmOne K cls (.ref CS) = some b ∧ (b = true → ∀ (a : Addr) (σ : L2.St), σ.length = N_law_outcome.length → H a = none → tsR K c0 c1 c2 c3 c4 c5 c6 c7 a cls d { nx := fun _ H' => Q .non H', rt := Q } (σ.set 3 (some (.ref a))) H) ∧ (b = false → False) := by
  obtain ⟨D, j, vs, rfl, hj, R', hd, hfl, k⟩ := h
  refine ⟨true, R'.exm, fun _ a σ hσ ha => ?_, fun z => by cases z⟩
  obtain ⟨s0, s1, s2, s3, rfl⟩ : ∃ s0 s1 s2 s3, σ = [s0, s1, s2, s3] := by
    match σ, hσ with
    | [s0, s1, s2, s3], _ => exact ⟨_, _, _, _, rfl⟩
  have dm : ∀ {H' : Hp}, Same H H' → DictOf H' d := fun e => hd.imp id fun ⟨dd, fs, e1, e2⟩ => ⟨dd, fs, e1, e _ _ e2⟩
  refine ⟨_, rfl, D, .ref c0, .ref c0, _, rfl, R'.ex, rfl, fun _ h => h, R'.k0, hd, _, rfl, D, .ref c1, .ref c1, _, rfl, R'.ex, rfl, fun _ h => h, R'.k1, hd, _, rfl, D, .ref c2, .ref c2, _, rfl, R'.ex, rfl, fun _ h => h, R'.k2, hd, by show 3 ≤ sizeLine; decide, fun p np => ?_⟩
  have e1 := same_new (o := .lst [.bl (j == 0), .bl (j == 1), .bl (j == 2)]) np
  have d1 := dm e1
  refine ⟨_, rfl, .inl ⟨rfl, _, SqL.of upd_same⟩, _, rfl, D, .ref c3, .ref c3, _, rfl, R'.ex, rfl, fun _ h => h, R'.k3, d1, _, rfl, D, .ref c4, .ref c4, _, rfl, R'.ex, rfl, fun _ h => h, R'.k4, d1, _, rfl, D, .ref c5, .ref c5, _, rfl, R'.ex, rfl, fun _ h => h, R'.k5, d1, by show 3 ≤ sizeLine; decide, fun p2 np2 => ?_⟩
  have n12 : p ≠ p2 := ne_of_none upd_same np2
  refine ⟨p, p2, _, _, rfl, rfl, by rw [upd_ne n12]; exact upd_same, upd_same, by show 6 ≤ sizeLine; decide, ?_⟩
  obtain ⟨H2, eH2, s2, l2⟩ : ∃ H2, upd (upd (upd H p (.lst [V.bl (j == 0), V.bl (j == 1), V.bl (j == 2)])) p2 (.lst [V.bl (j == 3), V.bl (j == 4), V.bl (j == 5)])) p (.lst ([V.bl (j == 0), V.bl (j == 1), V.bl (j == 2)] ++ [V.bl (j == 3), V.bl (j == 4), V.bl (j == 5)])) = H2 ∧ Same H H2 ∧ H2 p = some (.lst [V.bl (j == 0), V.bl (j == 1), V.bl (j == 2), V.bl (j == 3), V.bl (j == 4), V.bl (j == 5)]) := ⟨_, rfl, Same.mut (e1.trans (same_new np2)) np, upd_same⟩
  show tSeq _ _ _ _ _
  rw [eH2]
  have d2 := dm s2
  refine ⟨_, rfl, .inl ⟨rfl, _, SqL.of l2⟩, _, rfl, D, .ref c6, .ref c6, _, rfl, R'.ex, rfl, fun _ h => h, R'.k6, d2, _, rfl, D, .ref c7, .ref c7, _, rfl, R'.ex, rfl, fun _ h => h, R'.k7, d2, by show 2 ≤ sizeLine; decide, fun p3 np3 => ?_⟩
  have n13 : p ≠ p3 := ne_of_none l2 np3
  refine ⟨p, p3, _, _, rfl, rfl, by rw [upd_ne n13]; exact l2, upd_same, by show 8 ≤ sizeLine; decide, ?_⟩
  obtain ⟨H3, eH3, s3, l3⟩ : ∃ H3, upd (upd H2 p3 (.lst [V.bl (j == 6), V.bl (j == 7)])) p (.lst ([V.bl (j == 0), V.bl (j == 1), V.bl (j == 2), V.bl (j == 3), V.bl (j == 4), V.bl (j == 5)] ++ [V.bl (j == 6), V.bl (j == 7)])) = H3 ∧ Same H H3 ∧ H3 p = some (.lst [V.bl (j == 0), V.bl (j == 1), V.bl (j == 2), V.bl (j == 3), V.bl (j == 4), V.bl (j == 5), V.bl (j == 6), V.bl (j == 7)]) := ⟨_, rfl, Same.mut (s2.trans (same_new np3)) np, upd_same⟩
  show tSeq _ _ _ _ _
  rw [eH3]
  have d3 := dm s3
  clear eH2 eH3 l2 np3 e1 d1 d2 np2
  have cnt : ([V.bl (j == 0), V.bl (j == 1), V.bl (j == 2), V.bl (j == 3), V.bl (j == 4), V.bl (j == 5), V.bl (j == 6), V.bl (j == 7)].countP fun z => eqV z (.bl true)) = 1 := by
    have : ∀ j : Fin 8, ([V.bl (j.val == 0), V.bl (j.val == 1), V.bl (j.val == 2), V.bl (j.val == 3), V.bl (j.val == 4), V.bl (j.val == 5), V.bl (j.val == 6), V.bl (j.val == 7)].countP fun z => eqV z (.bl true)) = 1 := by decide +kernel
    exact this ⟨j, hj⟩
  refine ⟨_, rfl, .inl ⟨rfl, _, SqL.of l3⟩, p, _, _, rfl, rfl, SqL.of l3, rfl, rfl, ?_⟩
  rw [cnt]
  refine ⟨rfl, _, rfl, iteBF (by simp) ⟨_, rfl, D, .ty "ValueError", .type "ValueError", _, rfl, R'.ex, rfl, fun _ h => h, R'.ve, d3, _, rfl, iteBF (by simp) ?_⟩⟩
  refine ⟨by show 8 ≤ sizeLine; decide, fun p4 np4 => ?_⟩
  have s4 := same_new (o := .lst [V.str "daybook", .str "code", .str "number", .str "operation", .str "row", .str "text", .str "weather", .str "barrel"]) np4
  obtain ⟨H4, eH4, t4, l4⟩ : ∃ H4, upd H3 p4 (.lst [V.str "daybook", .str "code", .str "number", .str "operation", .str "row", .str "text", .str "weather", .str "barrel"]) = H4 ∧ Same H3 H4 ∧ H4 p4 = some (.lst [V.str "daybook", .str "code", .str "number", .str "operation", .str "row", .str "text", .str "weather", .str "barrel"]) := ⟨_, rfl, s4, upd_same⟩
  rw [eH4]
  refine ⟨_, rfl, .inl ⟨rfl, _, SqL.of (t4 _ _ l3)⟩, p, _, .bl true, j, .bl true, rfl, rfl, SqL.of (t4 _ _ l3), rfl, rfl, ?_, rfl, ?_, ?_⟩
  · have : ∀ j : Fin 8, ([V.bl (j.val == 0), V.bl (j.val == 1), V.bl (j.val == 2), V.bl (j.val == 3), V.bl (j.val == 4), V.bl (j.val == 5), V.bl (j.val == 6), V.bl (j.val == 7)])[j.val]? = some (.bl true) := by decide +kernel
    exact this ⟨j, hj⟩
  · intro m z' hm hz
    have : ∀ j m : Fin 8, m.val < j.val → ∃ b, ([V.bl (j.val == 0), V.bl (j.val == 1), V.bl (j.val == 2), V.bl (j.val == 3), V.bl (j.val == 4), V.bl (j.val == 5), V.bl (j.val == 6), V.bl (j.val == 7)])[m.val]? = some (.bl b) ∧ b = false := by
      intro j m h
      rcases j with ⟨j, hj⟩
      rcases m with ⟨m, hm⟩
      have h : m < j := h
      match j, m with
      | 1, 0 | 2, 0 | 2, 1 | 3, 0 | 3, 1 | 3, 2 | 4, 0 | 4, 1 | 4, 2 | 4, 3 | 5, 0 | 5, 1 | 5, 2 | 5, 3 | 5, 4 | 6, 0 | 6, 1 | 6, 2 | 6, 3 | 6, 4 | 6, 5 | 7, 0 | 7, 1 | 7, 2 | 7, 3 | 7, 4 | 7, 5 | 7, 6 => exact ⟨_, rfl, rfl⟩
      | 0, _ => omega
      | j + 8, _ => omega
      | 1, m + 1 | 2, m + 2 | 3, m + 3 | 4, m + 4 | 5, m + 5 | 6, m + 6 | 7, m + 7 => omega
    obtain ⟨b, hb, rfl⟩ := this ⟨j, hj⟩ ⟨m, by omega⟩ hm
    rw [show ([V.bl (j == 0), V.bl (j == 1), V.bl (j == 2), V.bl (j == 3), V.bl (j == 4), V.bl (j == 5), V.bl (j == 6), V.bl (j == 7)])[m]? = some (.bl false) from hb] at hz
    cases hz
    rfl
  · refine ⟨p4, _, _, .str (wordOf j), rfl, rfl, SqL.of l4, ?_, ?_⟩
    · have : ∀ j : Fin 8, atI [V.str "daybook", .str "code", .str "number", .str "operation", .str "row", .str "text", .str "weather", .str "barrel"] ((j.val : Nat) : Int) = some (.str (wordOf j.val)) := by
        intro j
        rcases j with ⟨j, hj⟩
        match j with
        | 0 | 1 | 2 | 3 | 4 | 5 | 6 | 7 => rfl
      exact this ⟨j, hj⟩
    · have sH4 : Same H H4 := s3.trans t4
      clear d3 cnt l3 s4 eH4 np4 l4 np n12 n13 t4 s3 dm s2
      obtain ⟨fl1, fl2⟩ := hfl
      have fld : ∀ (H' : Hp) (i : Nat) (n : Str) (v : V), Same H H' → (fldsOf j)[i]? = some n → vs[i]? = some v → PySem.W.findIn K (.ref D) n = some none ∧ ∃ (dd : Addr) (fs : List (Str × V)), d = some dd ∧ H' dd = some (.xd fs) ∧ fs.lookup n = some v := fun H' i n v e h1 h2 => by
        obtain ⟨a1, dd, fs, a2, a3, a4⟩ := fl2 _ _ _ h1 h2
        exact ⟨a1, dd, fs, a2, e _ _ a3, a4⟩
      refine ⟨_, rfl, by show 2 ≤ sizeLine; decide, fun t5 nt5 => ?_⟩
      have s5 := sH4.trans (same_new (o := .tup [V.str "daybook", .str "text"]) nt5)
      refine ⟨t5, _, rfl, .inr (.inl (.inl upd_same)), rfl, rfl, ?_⟩
      have hjj : j = 0 ∨ j = 5 ∨ j = 4 ∨ j = 6 ∨ j = 2 ∨ j = 1 ∨ j = 3 ∨ j = 7 := by omega
      rcases hjj with rfl | rfl | rfl | rfl | rfl | rfl | rfl | rfl
      · obtain ⟨v, rfl⟩ : ∃ v, vs = [v] := by
          match vs, fl1 with
          | [v], _ => exact ⟨v, rfl⟩
        obtain ⟨a1, dd, fs, a2, a3, a4⟩ := fld _ 0 _ _ s5 rfl rfl
        exact ⟨_, rfl, iteT ⟨_, rfl, _, rfl, rfl, D, R'.xf, a1, rfl, dd, fs, v, a2, a3, a4, by show 2 ≤ sizeLine; decide, fun q nq => k q _ (s5.trans (same_new nq)) upd_same⟩⟩
      · obtain ⟨v, rfl⟩ : ∃ v, vs = [v] := by
          match vs, fl1 with
          | [v], _ => exact ⟨v, rfl⟩
        obtain ⟨a1, dd, fs, a2, a3, a4⟩ := fld _ 0 _ _ s5 rfl rfl
        exact ⟨_, rfl, iteT ⟨_, rfl, _, rfl, rfl, D, R'.xf, a1, rfl, dd, fs, v, a2, a3, a4, by show 2 ≤ sizeLine; decide, fun q nq => k q _ (s5.trans (same_new nq)) upd_same⟩⟩
      · obtain ⟨v, v2, rfl⟩ : ∃ v v2, vs = [v, v2] := by
          match vs, fl1 with
          | [v, v2], _ => exact ⟨v, v2, rfl⟩
        obtain ⟨a1, dd, fs, a2, a3, a4⟩ := fld _ 0 _ _ s5 rfl rfl
        obtain ⟨b1, dd', fs', b2, b3, b4⟩ := fld _ 1 _ _ s5 rfl rfl
        exact ⟨_, rfl, iteF ⟨_, rfl, rfl, _, rfl, iteT ⟨_, rfl, _, rfl, rfl, D, R'.xf, a1, rfl, dd, fs, v, a2, a3, a4, _, rfl, rfl, D, R'.xf, b1, rfl, dd', fs', v2, b2, b3, b4, by show 3 ≤ sizeLine; decide, fun q nq => k q _ (s5.trans (same_new nq)) upd_same⟩⟩⟩
      · obtain ⟨v, rfl⟩ : ∃ v, vs = [v] := by
          match vs, fl1 with
          | [v], _ => exact ⟨v, rfl⟩
        obtain ⟨a1, dd, fs, a2, a3, a4⟩ := fld _ 0 _ _ s5 rfl rfl
        exact ⟨_, rfl, iteF ⟨_, rfl, rfl, _, rfl, iteF ⟨_, rfl, rfl, _, rfl, iteT ⟨_, rfl, _, rfl, rfl, D, R'.xf, a1, rfl, dd, fs, v, a2, a3, a4, by show 2 ≤ sizeLine; decide, fun q nq => k q _ (s5.trans (same_new nq)) upd_same⟩⟩⟩⟩
      · obtain rfl : vs = [] := by
          match vs, fl1 with
          | [], _ => rfl
        exact ⟨_, rfl, iteF ⟨_, rfl, rfl, _, rfl, iteF ⟨_, rfl, rfl, _, rfl, iteF ⟨_, rfl, rfl, _, rfl, iteT ⟨_, rfl, by show 1 ≤ sizeLine; decide, fun q nq => k q _ (s5.trans (same_new nq)) upd_same⟩⟩⟩⟩⟩
      · obtain ⟨v, rfl⟩ : ∃ v, vs = [v] := by
          match vs, fl1 with
          | [v], _ => exact ⟨v, rfl⟩
        obtain ⟨a1, dd, fs, a2, a3, a4⟩ := fld _ 0 _ _ s5 rfl rfl
        exact ⟨_, rfl, iteF ⟨_, rfl, rfl, _, rfl, iteF ⟨_, rfl, rfl, _, rfl, iteF ⟨_, rfl, rfl, _, rfl, iteF ⟨_, rfl, _, rfl, rfl, _, rfl, iteT ⟨_, rfl, rfl, D, R'.xf, a1, rfl, dd, fs, v, a2, a3, a4, by show 2 ≤ sizeLine; decide, fun q nq => k q _ (s5.trans (same_new nq)) upd_same⟩⟩⟩⟩⟩⟩
      · obtain ⟨v, rfl⟩ : ∃ v, vs = [v] := by
          match vs, fl1 with
          | [v], _ => exact ⟨v, rfl⟩
        obtain ⟨a1, dd, fs, a2, a3, a4⟩ := fld _ 0 _ _ s5 rfl rfl
        exact ⟨_, rfl, iteF ⟨_, rfl, rfl, _, rfl, iteF ⟨_, rfl, rfl, _, rfl, iteF ⟨_, rfl, rfl, _, rfl, iteF ⟨_, rfl, _, rfl, rfl, _, rfl, iteF ⟨_, rfl, rfl, _, rfl, iteT ⟨_, rfl, rfl, D, R'.xf, a1, rfl, dd, fs, v, a2, a3, a4, by show 2 ≤ sizeLine; decide, fun q nq => k q _ (s5.trans (same_new nq)) upd_same⟩⟩⟩⟩⟩⟩⟩
      · obtain ⟨v, rfl⟩ : ∃ v, vs = [v] := by
          match vs, fl1 with
          | [v], _ => exact ⟨v, rfl⟩
        obtain ⟨a1, dd, fs, a2, a3, a4⟩ := fld _ 0 _ _ s5 rfl rfl
        exact ⟨_, rfl, iteF ⟨_, rfl, rfl, _, rfl, iteF ⟨_, rfl, rfl, _, rfl, iteF ⟨_, rfl, rfl, _, rfl, iteF ⟨_, rfl, _, rfl, rfl, _, rfl, iteF ⟨_, rfl, rfl, _, rfl, iteF ⟨_, rfl, rfl, D, R'.xf, a1, rfl, dd, fs, v, a2, a3, a4, by show 2 ≤ sizeLine; decide, fun q nq => k q _ (s5.trans (same_new nq)) upd_same⟩⟩⟩⟩⟩⟩⟩
end
end Bk
set_option Elab.async false
set_option maxRecDepth 100000
set_option maxHeartbeats 2000000
namespace Bk
open PySem L2
theorem bt_dict : bootBuiltins "dict" = some (.type "dict") := by decide +kernel
theorem bt_str : bootBuiltins "str" = some (.type "str") := by decide +kernel
/-- a plain value: a number, a text, a truth, None -/
def plainV : V → Bool
  | .int _ => true
  | .str _ => true
  | .bl _ => true
  | .non => true
  | _ => false
/-- the same values of the same structure -/
def AlkT (K : PySem.W.Frag) (H : Hp) : Nat → V → V → Prop
  | 0, _, _ => False
  | n + 1, x, y => (plainV x = true ∧ x = y) ∨ ∃ (a b : Addr) (xs ys : List V), x = .ref a ∧ y = .ref b ∧ ((H a = some (.lst xs) ∧ H b = some (.lst ys)) ∨ (SqT K H a xs ∧ SqT K H b ys)) ∧ xs.length = ys.length ∧ ys.length ≤ 100000 ∧ ∀ (i : Nat) (u v : V), xs[i]? = some u → ys[i]? = some v → AlkT K H n u v
theorem AlkT.mono {K : PySem.W.Frag} {H H' : Hp} (s : Same H H') : ∀ {n : Nat} {x y : V}, AlkT K H n x y → AlkT K H' n x y
  | 0, _, _, h => h
  | n + 1, x, y, h => by
    rcases h with h | ⟨a, b, xs, ys, e1, e2, e3, e5, e6, e7⟩
    · exact .inl h
    · exact .inr ⟨a, b, xs, ys, e1, e2, e3.imp (fun e => ⟨s _ _ e.1, s _ _ e.2⟩) (fun e => ⟨same_t s e.1, same_t s e.2⟩), e5, e6, fun i u v hu hv => AlkT.mono s (e7 i u v hu hv)⟩
theorem kit2 {K : PySem.W.Frag} {a b c : String} {r1 r2 : Bool} (h1 : kitB a b = some r1) (h2 : kitB a c = some r2) : PySem.W.kitAny K (.type a) [.type b, .type c] = some (r1 || r2) := by
  refine kitAny_cons (kit_ty h1) (fun e => ?_) (fun e => by rw [e]; rfl)
  rw [e]
  refine kitAny_cons (kit_ty h2) (fun e2 => by rw [e2]; rfl) (fun e2 => by rw [e2]; rfl)
/-- the class of data, as isinstance asks -/
structure Kind (K : PySem.W.Frag) (H : Hp) (v : V) (tl : Bool) (l : Bool) (bo : Bool) (it : Bool) : Prop where
  ex : ∃ t : String, TyX K H v (.type t) ∧ PySem.W.kitAny K (.type t) [.type "tuple", .type "list"] = some tl ∧ PySem.W.kitOne K (.type t) (.type "list") = some l ∧ PySem.W.kitOne K (.type t) (.type "bool") = some bo ∧ PySem.W.kitOne K (.type t) (.type "int") = some it
theorem kind_int {K : PySem.W.Frag} {H : Hp} (i : Int) : Kind K H (.int i) false false false true := ⟨"int", .base (.int i), kit2 (r1 := false) (r2 := false) (by decide +kernel) (by decide +kernel), kit_ty (by decide +kernel), kit_ty (by decide +kernel), kit_ty (by decide +kernel)⟩
theorem kind_str {K : PySem.W.Frag} {H : Hp} (i : Str) : Kind K H (.str i) false false false false := ⟨"str", .base (.str i), kit2 (r1 := false) (r2 := false) (by decide +kernel) (by decide +kernel), kit_ty (by decide +kernel), kit_ty (by decide +kernel), kit_ty (by decide +kernel)⟩
theorem kind_non {K : PySem.W.Frag} {H : Hp} : Kind K H .non false false false false := ⟨"NoneType", .base .non, kit2 (r1 := false) (r2 := false) (by decide +kernel) (by decide +kernel), kit_ty (by decide +kernel), kit_ty (by decide +kernel), kit_ty (by decide +kernel)⟩
theorem kind_bl {K : PySem.W.Frag} {H : Hp} (i : Bool) : Kind K H (.bl i) false false true true := ⟨"bool", .base (.bl i), kit2 (r1 := false) (r2 := false) (by decide +kernel) (by decide +kernel), kit_ty (by decide +kernel), kit_ty (by decide +kernel), kit_ty (by decide +kernel)⟩
theorem kind_lst {K : PySem.W.Frag} {H : Hp} {a : Addr} {xs : List V} (e : H a = some (.lst xs)) : Kind K H (.ref a) true true false false := ⟨"list", .base (.lst e), kit2 (r1 := false) (r2 := true) (by decide +kernel) (by decide +kernel), kit_ty (by decide +kernel), kit_ty (by decide +kernel), kit_ty (by decide +kernel)⟩
theorem kind_tup {K : PySem.W.Frag} {H : Hp} {a : Addr} {xs : List V} (e : H a = some (.tup xs)) : Kind K H (.ref a) true false false false := ⟨"tuple", .base (.tup e), kit2 (r1 := true) (r2 := false) (by decide +kernel) (by decide +kernel), kit_ty (by decide +kernel), kit_ty (by decide +kernel), kit_ty (by decide +kernel)⟩
theorem ty_tupT {K : PySem.W.Frag} {H : Hp} {a : Addr} {xs : List V} (e : SqT K H a xs) : TyX K H (.ref a) (.type "tuple") := by
  rcases e with (e | ⟨o, e⟩) | ⟨o, its, n, e, c, _⟩
  · exact .base (.tup e)
  · exact .fTuple e
  · exact .kTuple e c
theorem kind_tupT {K : PySem.W.Frag} {H : Hp} {a : Addr} {xs : List V} (e : SqT K H a xs) : Kind K H (.ref a) true false false false := ⟨"tuple", ty_tupT e, kit2 (r1 := true) (r2 := false) (by decide +kernel) (by decide +kernel), kit_ty (by decide +kernel), kit_ty (by decide +kernel), kit_ty (by decide +kernel)⟩
section
variable {P : Program} {w : World} {K : PySem.W.Frag} {mg : Str → Option Value} {base : Heap} {CP CR : Addr}
def spAlkT (K : PySem.W.Frag) (n : Nat) : Sp := fun vs H Q _ => ∃ (x y : V), vs = [x, y] ∧ AlkT K H n x y ∧ ∀ H', Same H H' → Q (.bl true) H'
theorem ok_alike_lawT {f : Addr} {fd : FuncData} (F : Fun K "_law_alike" "_law_alike" s_law_alike f fd) (T : Txt K mg CP CR) (n_dict : mg "dict" = none) (n_str : mg "str" = none) (g : mg "_law_alike" = some (.ref f)) (b : Binds K fd P_law_alike []) : ∀ n : Nat, FnOk P w K mg base CX0 n f fd P_law_alike (spAlkT K n)
  | 0 => ⟨fun vs H Q E h => by obtain ⟨x, y, rfl, _⟩ := h; rfl, fun A outer s H args us vs Q E hr he hb hv hs => by obtain ⟨x, y, _, h, _⟩ := hs; exact h.elim⟩
  | n + 1 => by
    have c_law_alike : Callee P w K mg base "_law_alike" n (spAlkT K n) := ⟨f, fd, P_law_alike, g, F.kp, b, ok_alike_lawT F T n_dict n_str g b n⟩
    refine F.ok sc_law_alike (fun vs H Q E h => ?_) (fun cdv A outer s H vs Q E hr h => ?_)
    · obtain ⟨x, y, rfl, _⟩ := h
      rfl
    · obtain ⟨x, y, rfl, hd, k⟩ := h
      refine ⟨_, (pss_cons (ps_if (pt_val (pe_callB call_isi (by rfl) T.n_isinstance bt_isinstance (pa_cons (pv 1) (pa_cons (pe_bltn (v := .ty "dict") (by rfl) n_dict bt_dict rfl) pa_nil))))
        (pss_one ps_never)
        pss_nil)
      (pss_cons (ps_if (pt_val (pe_callB call_isiT (by rfl) T.n_isinstance bt_isinstance (pa_cons (pv 1) (pa_cons (pe_tup (pa_cons (pe_bltn (v := .ty "tuple") (by rfl) T.n_tuple bt_tuple rfl) (pa_cons (pe_bltn (v := .ty "list") (by rfl) T.n_list bt_list rfl) pa_nil))) pa_nil))))
        (pss_cons (ps_if (PW.pt (pw_or (pt_not (pt_val (pe_callB call_isiT (by rfl) T.n_isinstance bt_isinstance (pa_cons (pv 0) (pa_cons (pe_tup (pa_cons (pe_bltn (v := .ty "tuple") (by rfl) T.n_tuple bt_tuple rfl) (pa_cons (pe_bltn (v := .ty "list") (by rfl) T.n_list bt_list rfl) pa_nil))) pa_nil))))) (pw_or1 (pt_cmpR op_ne (pe_callB call_isi (by rfl) T.n_isinstance bt_isinstance (pa_cons (pv 0) (pa_cons (pe_bltn (v := .ty "list") (by rfl) T.n_list bt_list rfl) pa_nil))) (pe_callB call_isi (by rfl) T.n_isinstance bt_isinstance (pa_cons (pv 1) (pa_cons (pe_bltn (v := .ty "list") (by rfl) T.n_list bt_list rfl) pa_nil))) (nomark _)))))
        (pss_one (ps_ret pe_bl))
        pss_nil)
      (pss_cons (ps_if (pt_cmpR op_ne (pe_callB call_len_seq (by rfl) T.n_len bt_len (pa_cons (pv 0) pa_nil)) (pe_callB call_len_seq (by rfl) T.n_len bt_len (pa_cons (pv 1) pa_nil)) (nomark _))
        (pss_one (ps_ret pe_bl))
        pss_nil)
      (pss_one (ps_ret (pe_cmpR (op_eqD hr.units) (pe_lc (own := [("_law_k", 2)]) (g := gName 2) (by rfl) sc_law_alike.nd (pi_range1 (by rfl) T.n_range (pa_cons (pe_callB call_len_seq (by rfl) T.n_len bt_len (pa_cons (pv 1) pa_nil)) pa_nil)) (blkOk_by (own := [("_law_k", 2)]) (N := N_law_alike) (sc := defScope s_law_alike) (by decide +kernel)) (fun _ _ _ _ _ => (pg_name (i := 2) sc_law_alike.nd rfl (.inl rfl))) (fun _ _ _ _ _ => (pts_one (pt_not (pt_val (pe_callF c_law_alike (hr.mono (Nat.le_refl _)) (by rfl) (pa_cons (pe_ix (ixK (K := K) (r := rIx) rfl ix_seq) (pv 0) (pv 2) (fun _ _ => rfl)) (pa_cons (pe_ix (ixK (K := K) (r := rIx) rfl ix_seq) (pv 1) (pv 2) (fun _ _ => rfl)) pa_nil))))))) (fun _ _ _ _ _ => (pv 2))) (pe_lst pa_nil) (nomark _))))))
        pss_nil)
      (pss_cons (ps_if (PW.pt (pw_or (pt_cmpR op_isN (pv 1) pe_non (nomark _)) (pw_or1 (pt_val (pe_callB call_isi (by rfl) T.n_isinstance bt_isinstance (pa_cons (pv 1) (pa_cons (pe_bltn (v := .ty "str") (by rfl) n_str bt_str rfl) pa_nil)))))))
        (pss_one (ps_ret (pe_and (pe_cmpR op_eq (pv 0) (pv 1) (nomark _)) (pe_one (pe_cmpR op_eq (pe_callB call_isi (by rfl) T.n_isinstance bt_isinstance (pa_cons (pv 0) (pa_cons (pe_bltn (v := .ty "str") (by rfl) n_str bt_str rfl) pa_nil))) (pe_callB call_isi (by rfl) T.n_isinstance bt_isinstance (pa_cons (pv 1) (pa_cons (pe_bltn (v := .ty "str") (by rfl) n_str bt_str rfl) pa_nil))) (nomark _))))))
        pss_nil)
      (pss_one (ps_ret (pe_and (pe_callB call_isi (by rfl) T.n_isinstance bt_isinstance (pa_cons (pv 0) (pa_cons (pe_bltn (v := .ty "int") (by rfl) T.n_int bt_int rfl) pa_nil))) (pe_and (pe_cmpR op_eq (pe_callB call_isi (by rfl) T.n_isinstance bt_isinstance (pa_cons (pv 0) (pa_cons (pe_bltn (v := .ty "bool") (by rfl) T.n_bool bt_bool rfl) pa_nil))) (pe_callB call_isi (by rfl) T.n_isinstance bt_isinstance (pa_cons (pv 1) (pa_cons (pe_bltn (v := .ty "bool") (by rfl) T.n_bool bt_bool rfl) pa_nil))) (nomark _)) (pe_one (pe_cmpR op_eq (pv 0) (pv 1) (nomark _)))))))))), ?_⟩
      rcases hd with ⟨px, rfl⟩ | ⟨a, b', xs, ys, rfl, rfl, hab, lx, ll, dx⟩
      · -- plain
        cases x with
        | int i =>
          refine ⟨_, rfl, .int i, _, _, _, false, rfl, .ty _, .base (.int i), kit_ty (by decide +kernel), _, rfl, iteF ?_⟩
          refine ⟨_, rfl, by show 2 ≤ sizeLine; decide, fun tp ntp => ?_⟩
          have s1 := same_new (o := .tup [V.ty "tuple", V.ty "list"]) ntp
          obtain ⟨ty, y1, y2, y3, y4, y5⟩ := (kind_int (K := K) (H := upd H tp (.tup [V.ty "tuple", V.ty "list"])) i).ex
          refine ⟨.int i, tp, _, _, _, false, rfl, upd_same, .cons (.ty _) (.cons (.ty _) .nil), y1, y2, _, rfl, iteF ?_⟩
          refine ⟨_, rfl, rfl, _, rfl, iteF ⟨_, rfl, .int i, _, _, _, false, rfl, .ty _, .base (.int i), kit_ty (by decide +kernel), _, rfl, iteF ?_⟩⟩
          refine ⟨_, rfl, .int i, _, _, _, true, rfl, .ty _, y1, y5, _, rfl, iteT ?_⟩
          refine ⟨_, rfl, .int i, _, _, _, false, rfl, .ty _, y1, y4, _, rfl, .int i, _, _, _, false, rfl, .ty _, y1, y4, rfl, _, rfl, iteBT (decide_eq_true rfl) ?_⟩
          refine ⟨_, rfl, _, rfl, rfl, ?_⟩
          rw [decide_eq_true rfl]
          exact k _ s1
        | bl i =>
          refine ⟨_, rfl, .bl i, _, _, _, false, rfl, .ty _, .base (.bl i), kit_ty (by decide +kernel), _, rfl, iteF ?_⟩
          refine ⟨_, rfl, by show 2 ≤ sizeLine; decide, fun tp ntp => ?_⟩
          have s1 := same_new (o := .tup [V.ty "tuple", V.ty "list"]) ntp
          obtain ⟨ty, y1, y2, y3, y4, y5⟩ := (kind_bl (K := K) (H := upd H tp (.tup [V.ty "tuple", V.ty "list"])) i).ex
          refine ⟨.bl i, tp, _, _, _, false, rfl, upd_same, .cons (.ty _) (.cons (.ty _) .nil), y1, y2, _, rfl, iteF ?_⟩
          refine ⟨_, rfl, rfl, _, rfl, iteF ⟨_, rfl, .bl i, _, _, _, false, rfl, .ty _, .base (.bl i), kit_ty (by decide +kernel), _, rfl, iteF ?_⟩⟩
          refine ⟨_, rfl, .bl i, _, _, _, true, rfl, .ty _, y1, y5, _, rfl, iteT ?_⟩
          refine ⟨_, rfl, .bl i, _, _, _, true, rfl, .ty _, y1, y4, _, rfl, .bl i, _, _, _, true, rfl, .ty _, y1, y4, rfl, _, rfl, iteBT (decide_eq_true rfl) ?_⟩
          refine ⟨_, rfl, _, rfl, rfl, ?_⟩
          rw [decide_eq_true rfl]
          exact k _ s1
        | str i =>
          refine ⟨_, rfl, .str i, _, _, _, false, rfl, .ty _, .base (.str i), kit_ty (by decide +kernel), _, rfl, iteF ?_⟩
          refine ⟨_, rfl, by show 2 ≤ sizeLine; decide, fun tp ntp => ?_⟩
          have s1 := same_new (o := .tup [V.ty "tuple", V.ty "list"]) ntp
          obtain ⟨ty, y1, y2, y3, y4, y5⟩ := (kind_str (K := K) (H := upd H tp (.tup [V.ty "tuple", V.ty "list"])) i).ex
          refine ⟨.str i, tp, _, _, _, false, rfl, upd_same, .cons (.ty _) (.cons (.ty _) .nil), y1, y2, _, rfl, iteF ?_⟩
          refine ⟨_, rfl, rfl, _, rfl, iteF ⟨_, rfl, .str i, _, _, _, true, rfl, .ty _, .base (.str i), kit_ty (by decide +kernel), _, rfl, iteT ?_⟩⟩
          refine ⟨_, rfl, _, rfl, rfl, _, rfl, iteBT (decide_eq_true rfl) ?_⟩
          refine ⟨_, rfl, .str i, _, _, _, true, rfl, .ty _, .base (.str i), kit_ty (by decide +kernel), _, rfl, .str i, _, _, _, true, rfl, .ty _, .base (.str i), kit_ty (by decide +kernel), rfl, ?_⟩
          rw [decide_eq_true rfl]
          exact k _ s1
        | non =>
          refine ⟨_, rfl, .non, _, _, _, false, rfl, .ty _, .base .non, kit_ty (by decide +kernel), _, rfl, iteF ?_⟩
          refine ⟨_, rfl, by show 2 ≤ sizeLine; decide, fun tp ntp => ?_⟩
          have s1 := same_new (o := .tup [V.ty "tuple", V.ty "list"]) ntp
          obtain ⟨ty, y1, y2, y3, y4, y5⟩ := (kind_non (K := K) (H := upd H tp (.tup [V.ty "tuple", V.ty "list"]))).ex
          refine ⟨.non, tp, _, _, _, false, rfl, upd_same, .cons (.ty _) (.cons (.ty _) .nil), y1, y2, _, rfl, iteF ?_⟩
          refine ⟨_, rfl, rfl, _, rfl, iteT ?_⟩
          refine ⟨_, rfl, _, rfl, rfl, _, rfl, iteBT (decide_eq_true rfl) ?_⟩
          refine ⟨_, rfl, .non, _, _, _, false, rfl, .ty _, .base .non, kit_ty (by decide +kernel), _, rfl, .non, _, _, _, false, rfl, .ty _, .base .non, kit_ty (by decide +kernel), rfl, ?_⟩
          rw [decide_eq_true rfl]
          exact k _ s1
        | _ => cases px
      · have knd : ∀ {H' : Hp}, Same H H' → ∃ l, Kind K H' (.ref a) true l false false ∧ Kind K H' (.ref b') true l false false := fun {H'} e => by
          rcases hab with ⟨h1, h2⟩ | ⟨h1, h2⟩
          · exact ⟨true, kind_lst (e _ _ h1), kind_lst (e _ _ h2)⟩
          · exact ⟨false, kind_tupT (same_t e h1), kind_tupT (same_t e h2)⟩
        have ty0 : ∃ t, TyX K H (.ref b') (.type t) ∧ PySem.W.kitOne K (.type t) (.type "dict") = some false := by
          rcases hab with ⟨h1, h2⟩ | ⟨h1, h2⟩
          · exact ⟨"list", .base (.lst h2), kit_ty (by decide +kernel)⟩
          · exact ⟨"tuple", ty_tupT h2, kit_ty (by decide +kernel)⟩
        obtain ⟨t0, ty1, ty2⟩ := ty0
        refine ⟨_, rfl, .ref b', _, _, _, false, rfl, .ty _, ty1, ty2, _, rfl, iteF ?_⟩
        refine ⟨_, rfl, by show 2 ≤ sizeLine; decide, fun tp ntp => ?_⟩
        have s1 := same_new (o := .tup [V.ty "tuple", V.ty "list"]) ntp
        obtain ⟨l, _, ⟨ty, y1, y2, _⟩⟩ := knd s1
        refine ⟨_, tp, _, _, _, true, rfl, upd_same, .cons (.ty _) (.cons (.ty _) .nil), y1, y2, _, rfl, iteT ?_⟩
        refine ⟨_, rfl, by show 2 ≤ sizeLine; decide, fun tp2 ntp2 => ?_⟩
        have s2 := s1.trans (same_new (o := .tup [V.ty "tuple", V.ty "list"]) ntp2)
        obtain ⟨l2, ⟨tx, x1, x2, x3, _⟩, ⟨ty', z1, z2, z3, _⟩⟩ := knd s2
        refine ⟨_, tp2, _, _, _, true, rfl, upd_same, .cons (.ty _) (.cons (.ty _) .nil), x1, x2, _, rfl, iteF ?_⟩
        refine ⟨_, rfl, _, _, _, _, l2, rfl, .ty _, x1, x3, _, rfl, _, _, _, _, l2, rfl, .ty _, z1, z3, by cases l2 <;> rfl, _, rfl, iteBF (by simp) ?_⟩
        have len : ∀ {H' : Hp}, Same H H' → (SqL K H' a xs ∨ SqT K H' a xs) ∧ (SqL K H' b' ys ∨ SqT K H' b' ys) := fun {H'} e => by
          rcases hab with ⟨h1, h2⟩ | ⟨h1, h2⟩
          · exact ⟨.inl (SqL.of (e _ _ h1)), .inl (SqL.of (e _ _ h2))⟩
          · exact ⟨.inr (same_t e h1), .inr (same_t e h2)⟩
        refine ⟨_, rfl, a, xs, rfl, (len s2).1, _, rfl, b', ys, rfl, (len s2).2, rfl, _, rfl, iteBF (by rw [lx]; simp) ?_⟩
        refine ⟨_, rfl, b', ys, rfl, (len s2).2, _, rfl, by omega, by omega, fun D nD => lc_it walk_range (fun i H' => Same (upd (upd H tp (.tup [V.ty "tuple", V.ty "list"])) tp2 (.tup [V.ty "tuple", V.ty "list"])) H' ∧ H' D = some (.lst [])) ⟨same_new nD, upd_same⟩ (fun i H' _ p => trivial) ?_ ?_⟩
        · rintro i x H1 H2 hi ⟨s3, e3⟩ ⟨rfl, rfl⟩
          refine ⟨rfl, ?_⟩
          have hi' : i < ys.length := by omega
          have s4 := s2.trans s3
          obtain ⟨vx, hvx⟩ : ∃ v, xs[i]? = some v := ⟨_, List.getElem?_eq_getElem (by omega)⟩
          obtain ⟨vy, hvy⟩ : ∃ v, ys[i]? = some v := ⟨_, List.getElem?_eq_getElem (by omega)⟩
          have ka := (dx i vx vy hvx hvy).mono s4
          rcases hab with ⟨h1, h2⟩ | ⟨h1, h2⟩
          · refine ⟨_, rfl, _, rfl, .inl ⟨a, xs, _, vx, rfl, rfl, SqL.of (s4 _ _ h1), at_of (j := i) (by omega) hvx, ?_⟩⟩
            refine ⟨_, rfl, _, rfl, .inl ⟨b', ys, _, vy, rfl, rfl, SqL.of (s4 _ _ h2), at_of (j := i) (by omega) hvy, ?_⟩⟩
            exact ⟨vx, vy, rfl, ka, fun H3 s5 => ⟨_, rfl, iteF ⟨s3.trans s5, s5 _ _ e3⟩⟩⟩
          · refine ⟨_, rfl, _, rfl, .inr (.inl ⟨a, xs, _, vx, rfl, rfl, same_t s4 h1, at_of (j := i) (by omega) hvx, ?_⟩)⟩
            refine ⟨_, rfl, _, rfl, .inr (.inl ⟨b', ys, _, vy, rfl, rfl, same_t s4 h2, at_of (j := i) (by omega) hvy, ?_⟩)⟩
            exact ⟨vx, vy, rfl, ka, fun H3 s5 => ⟨_, rfl, iteF ⟨s3.trans s5, s5 _ _ e3⟩⟩⟩
        · rintro H1 ⟨s3, e3⟩
          refine ⟨by decide, fun p np => ⟨.list [], .list [], .lst (SqL.of (same_new np _ _ e3)) .nil, .lst (SqL.of upd_same) .nil, by rfl, by rfl, ?_⟩⟩
          have e : PyData.eqv (.list []) (.list []) = true := by rfl
          rw [e]
          exact k _ ((s2.trans s3).trans (same_new np))
end
end Bk
set_option Elab.async false
set_option maxRecDepth 100000
set_option maxHeartbeats 4000000
namespace Bk
open PySem L2
/-! ### one tick of a live row, from any moment -/
abbrev dB : Bar := ⟨"", 0, 0, []⟩
structure Mo where
  t : Nat
  hs : List Int
  ls : List Bool
  lo : Int
  mi : Int
def wishC (bs : List Bar) (ks : List Bool) (at' i : Nat) : Int := if ks.getD i false = true then 0 else at0 (bs.getD i dB).draws at'
def barC (bs : List Bar) (ks : List Bool) (at' i : Nat) : Bar := { bs.getD i dB with draws := [wishC bs ks at' i] }
def colC (am : Int) (at' : Nat) (bs : List Bar) (hs : List Int) (ks : List Bool) : Nat → T4
  | 0 => tickB (bs.getD 0 dB).cap (hs.getD 0 0) (am * (bs.getD 0 dB).roof + 0) (wishC bs ks at' 0)
  | i + 1 => tickB (bs.getD (i + 1) dB).cap (hs.getD (i + 1) 0) (am * (bs.getD (i + 1) dB).roof + (colC am at' bs hs ks i).ov) (wishC bs ks at' (i + 1))
def ovC (am : Int) (at' : Nat) (bs : List Bar) (hs : List Int) (ks : List Bool) : Nat → Int
  | 0 => 0
  | i + 1 => (colC am at' bs hs ks i).ov
theorem colC_eq (am : Int) (at' : Nat) (bs : List Bar) (hs : List Int) (ks : List Bool) (i : Nat) : colC am at' bs hs ks i = tickB (bs.getD i dB).cap (hs.getD i 0) (am * (bs.getD i dB).roof + ovC am at' bs hs ks i) (wishC bs ks at' i) := by
  cases i <;> rfl
def barsC (bs : List Bar) (ks : List Bool) (at' : Nat) : List Bar := (List.range bs.length).map (barC bs ks at')
theorem barsC_get {bs : List Bar} {ks : List Bool} {at' i : Nat} (h : i < bs.length) : (barsC bs ks at')[i]? = some (barC bs ks at' i) := by
  unfold barsC
  rw [List.getElem?_map, List.getElem?_range h]
  rfl
theorem overC {am : Int} {at' : Nat} {bs : List Bar} {hs : List Int} {ks : List Bool} (hl : hs.length = bs.length) : ∀ i, i ≤ bs.length → overFrom [am] [0] (barsC bs ks at') hs i = [ovC am at' bs hs ks i]
  | 0, _ => overFrom_zero ..
  | i + 1, hi => by
    have hh : hs[i]? = some (hs.getD i 0) := by rw [List.getD_eq_getElem?_getD, List.getElem?_eq_getElem (by omega)]; rfl
    obtain ⟨g1, g2⟩ := passFrom_get [am] i [0] (barsC bs ks at') hs _ _ (barsC_get (ks := ks) (at' := at') (show i < bs.length by omega)) hh
    rw [g2, overC hl i (by omega)]
    show [(tickB _ _ _ _).ov] = [(colC am at' bs hs ks i).ov]
    rw [colC_eq]
    rfl
theorem pasC {am : Int} {at' : Nat} {bs : List Bar} {hs : List Int} {ks : List Bool} (hl : hs.length = bs.length) {i : Nat} (hi : i < bs.length) : (passTicks [am] (barsC bs ks at') hs)[i]? = some ⟨hs.getD i 0, (bs.getD i dB).cap, [colC am at' bs hs ks i]⟩ := by
  have hh : hs[i]? = some (hs.getD i 0) := by rw [List.getD_eq_getElem?_getD, List.getElem?_eq_getElem (by omega)]; rfl
  obtain ⟨g1, g2⟩ := passFrom_get [am] i [0] (barsC bs ks at') hs _ _ (barsC_get (ks := ks) (at' := at') hi) hh
  unfold passTicks
  show (passFrom [am] [0] (barsC bs ks at') hs)[i]? = _
  rw [g1, overC hl i (by omega), colC_eq]
  rfl
theorem pasC_length {am : Int} {at' : Nat} {bs : List Bar} {hs : List Int} {ks : List Bool} (hl : hs.length = bs.length) : (passTicks [am] (barsC bs ks at') hs).length = bs.length := by
  unfold passTicks barsC
  rw [passFrom_length, List.length_map, List.length_range, hl, Nat.min_self]
/-- the moment behind a tick -/
def nxt (rl : Nat) (bs : List Bar) (x : Mo) (am : Int) : Mo where
  t := x.t + 1
  hs := (List.range bs.length).map fun i => (colC am (x.t % rl) bs x.hs x.ls i).lv
  ls := x.ls
  lo := x.lo + (colC am (x.t % rl) bs x.hs x.ls (bs.length - 1)).ov
  mi := x.mi + (bs.map fun b => at0 b.draws (x.t % rl)).sum - ((List.range bs.length).map fun i => (colC am (x.t % rl) bs x.hs x.ls i).dr).sum
structure MoOk (bs : List Bar) (x : Mo) : Prop where
  hl : x.hs.length = bs.length
  kl : x.ls.length = bs.length
  h0 : ∀ h ∈ x.hs, 0 ≤ h
theorem tickB_lv0 (cap level water wish : Int) (h : 0 ≤ cap) (h1 : 0 ≤ level) (h2 : 0 ≤ water) : 0 ≤ (tickB cap level water wish).lv := by
  unfold tickB
  dsimp only
  split <;> split <;> omega
theorem tickB_ov0 (cap level water wish : Int) : 0 ≤ (tickB cap level water wish).ov := by
  unfold tickB
  dsimp only
  split <;> omega
theorem getD_mem {α : Type} {l : List α} {i : Nat} {d : α} (h : i < l.length) : l.getD i d ∈ l := by
  rw [List.getD_eq_getElem?_getD, List.getElem?_eq_getElem h]
  exact List.getElem_mem h
theorem ovC0 {am : Int} {at' : Nat} {bs : List Bar} {hs : List Int} {ks : List Bool} : ∀ i, 0 ≤ ovC am at' bs hs ks i
  | 0 => Int.le_refl 0
  | i + 1 => by
    show 0 ≤ (colC am at' bs hs ks i).ov
    rw [colC_eq]
    exact tickB_ov0 ..
theorem MoOk.nxt {rain : List Int} {bs : List Bar} {x : Mo} {am : Int} (ok : RowOk rain bs) (h : MoOk bs x) (ha : 0 ≤ am) : MoOk bs (nxt rain.length bs x am) := by
  refine ⟨by unfold Bk.nxt; simp, h.kl, fun y hy => ?_⟩
  obtain ⟨i, hi, rfl⟩ := List.mem_map.mp hy
  have hi := List.mem_range.mp hi
  rw [colC_eq]
  have hb := ok.bars _ (getD_mem (d := dB) hi)
  refine tickB_lv0 _ _ _ _ hb.2.2.1 (h.h0 _ (getD_mem (by rw [h.hl]; exact hi))) ?_
  have := ovC0 (am := am) (at' := x.t % rain.length) (bs := bs) (hs := x.hs) (ks := x.ls) i
  have := Int.mul_nonneg ha hb.2.2.2.2.1
  omega
abbrev moF (t : Int) (ha la : Addr) (lo mi : Int) : List (Str × V) := [("tick", .int t), ("heights", .ref ha), ("locks", .ref la), ("lost", .int lo), ("missed", .int mi)]
def MoAt (K : PySem.W.Frag) (CM : Addr) (H : Hp) (m : Addr) (x : Mo) : Prop := ∃ dx ha la : Addr, H m = some (.ins CM dx (moF (x.t : Nat) ha la x.lo x.mi)) ∧ SqT K H ha (x.hs.map V.int) ∧ SqT K H la (x.ls.map V.bl)
theorem MoAt.mono {K : PySem.W.Frag} {CM : Addr} {H H' : Hp} {m : Addr} {x : Mo} (e : Same H H') (h : MoAt K CM H m x) : MoAt K CM H' m x := by
  obtain ⟨dx, ha, la, h1, h2, h3⟩ := h
  exact ⟨dx, ha, la, e _ _ h1, same_t e h2, same_t e h3⟩
section
variable {P : Program} {w : World} {K : PySem.W.Frag} {mg : Str → Option Value} {base : Heap} {CP CR CM : Addr}
def spMomInit (CM : Addr) : Sp := fun vs H Q _ => ∃ (a dx ha la : Addr) (t lo mi : Int), vs = [.ref a, .int t, .ref ha, .ref la, .int lo, .int mi] ∧ H a = some (.ins CM dx []) ∧ ∀ H', Kp a H H' → H' a = some (.ins CM dx (moF t ha la lo mi)) → Q .non H'
theorem ok_mom_init {f : Addr} {fd : FuncData} (F : Fun K "__init__" "Moment.__init__" s_Moment_init f fd) (T : Txt K mg CP CR) (TM : Txt_Moment K mg CM) : FnOk P w K mg base CX0 2 f fd P_Moment_init (spMomInit CM) := by
  refine F.ok sc_Moment_init (fun vs H Q E h => ?_) (fun cdv A outer s H vs Q E hr h => ?_)
  · obtain ⟨a, dx, ha, la, t, lo, mi, rfl, _⟩ := h
    rfl
  · obtain ⟨a, dx, ha, la, t, lo, mi, rfl, h0, k⟩ := h
    refine ⟨_, (pss_cons (ps_fld (pv 0) (pv 1) rfl)
      (pss_cons (ps_fld (pv 0) (pv 2) rfl)
      (pss_cons (ps_fld (pv 0) (pv 3) rfl)
      (pss_cons (ps_fld (pv 0) (pv 4) rfl)
      (pss_one (ps_fld (pv 0) (pv 5) rfl)))))), ?_⟩
    refine ⟨_, rfl, _, rfl, a, CM, dx, _, rfl, h0, TM.cl_Moment, TM.na_Moment_tick, by show 0 < 1000; decide, ?_⟩
    refine ⟨_, rfl, _, rfl, a, CM, dx, _, rfl, upd_same, TM.cl_Moment, TM.na_Moment_heights, by show 1 < 1000; decide, ?_⟩
    refine ⟨_, rfl, _, rfl, a, CM, dx, _, rfl, upd_same, TM.cl_Moment, TM.na_Moment_locks, by show 2 < 1000; decide, ?_⟩
    refine ⟨_, rfl, _, rfl, a, CM, dx, _, rfl, upd_same, TM.cl_Moment, TM.na_Moment_lost, by show 3 < 1000; decide, ?_⟩
    refine ⟨_, rfl, _, rfl, a, CM, dx, _, rfl, upd_same, TM.cl_Moment, TM.na_Moment_missed, by show 4 < 1000; decide, ?_⟩
    exact k _ (Kp.upd (Kp.upd (Kp.upd (Kp.upd (Kp.upd fun b o q _ => q))))) upd_same
def spAfterG (K : PySem.W.Frag) (CR CM : Addr) : Sp := fun vs H Q _ => ∃ (v : V) (m : Addr) (rain : List Int) (bs : List Bar) (x : Mo) (am : Int), vs = [v, .ref m, .int am] ∧ RowAt K CR H v rain bs ∧ RowOk rain bs ∧ 1 ≤ bs.length ∧ MoAt K CM H m x ∧ MoOk bs x ∧ 0 ≤ am ∧ am ≤ 1000000 ∧
  ∀ m' H', Same H H' → H m' = none → MoAt K CM H' m' (nxt rain.length bs x am) → Q (.ref m') H'
theorem ok_afterG {f : Addr} {fd : FuncData} (F : Fun K "after_tick" "after_tick" s_after_tick f fd) (T : Txt K mg CP CR) (TM : Txt_Moment K mg CM) (c_Row_rain : CalleeP P w K mg base CR "rain" 1 (spRowRain K CR)) (c_Row_barrels : CalleeP P w K mg base CR "barrels" 1 (spRowBarrels K CR))
    (c_pass_ticks : Callee P w K mg base "pass_ticks" 4 (spPassTicksH K CP)) (c_Moment__init : Maker P w K mg base "Moment" CM 2 (spMomInit CM)) : FnOk P w K mg base CX0 5 f fd P_after_tick (spAfterG K CR CM) := by
  refine F.ok sc_after_tick (fun vs H Q E h => ?_) (fun cdv A outer s H vs Q E hr h => ?_)
  · obtain ⟨v, m, rain, bs, x, am, rfl, _⟩ := h
    rfl
  · obtain ⟨v, m, rain, bs, ⟨t, hs, ks, lo, mi⟩, am, rfl, hr0, ok, hb1, hm, ⟨hhl, hkl, hh0⟩, am0, am1, k⟩ := h
    obtain ⟨a, dx, _, _, rfl, h1, _⟩ := id hr0
    obtain ⟨dm, ha, la, m1, m2, m3⟩ := id hm
    dsimp only at hhl hkl hh0 m1 m2 m3
    have hl := ok.len
    have hl2 := ok.len2
    have hcn := ok.cnt
    refine ⟨_, (pss_cons (ps_set (i := 3) sc_after_tick.nd rfl (.inr rfl) (pe_op op_modN (pe_fld (pv 1) rfl) (pe_callB call_len_seq (by rfl) T.n_len bt_len (pa_cons (pe_propF c_Row_rain (hr.mono (by decide)) (pv 0) rfl) pa_nil))))
      (pss_cons (ps_setLc (i := 4) (own := [("barrel", 11)]) (g := gName 11) (by rfl) sc_after_tick.nd rfl rfl (sw_true rfl rfl rfl (by decide +kernel)) (pi_tup (pe_propF c_Row_barrels (hr.mono (by decide)) (pv 0) rfl)) (blkOk_by (own := [("barrel", 11)]) (N := N_after_tick) (sc := defScope s_after_tick) (by decide +kernel)) (fun _ _ _ _ _ => (pg_name (i := 11) sc_after_tick.nd rfl (.inl rfl))) (fun _ _ _ _ _ => pts_nil) (fun _ _ _ _ _ => (pe_ix (ixK (K := K) (r := rIxT) rfl ix_tup) (pe_ix (ixK (K := K) (r := rIxT) rfl ix_tup) (pv 11) pe_int (fun _ _ => rfl)) (pv 3) (fun _ _ => rfl))))
      (pss_cons (ps_setLc (i := 5) (own := [("wish", 12), ("locked", 13)]) (g := gTup K 2 (gCons (gName 12) (gCons (gName 13) gNil))) (by rfl) sc_after_tick.nd rfl rfl (sw_true rfl rfl rfl (by decide +kernel)) (pi_zipM true false (by rfl) T.n_zip (pa_cons (pv 4) (pa_cons (pe_fld (pv 1) rfl) pa_nil))) (blkOk_by (own := [("wish", 12), ("locked", 13)]) (N := N_after_tick) (sc := defScope s_after_tick) (by decide +kernel)) (fun _ _ _ _ _ => (pg_tup rfl (pgs_cons (pg_name (i := 12) sc_after_tick.nd rfl (.inl rfl)) (pgs_cons (pg_name (i := 13) sc_after_tick.nd rfl (.inl rfl)) pgs_nil)))) (fun _ _ _ _ _ => pts_nil) (fun _ _ _ _ _ => (pe_ifExp (pt_val (pv 13)) pe_int (pv 12))))
      (pss_cons (ps_setLc (i := 6) (own := [("barrel", 11), ("wish", 12)]) (g := gTup K 2 (gCons (gName 11) (gCons (gName 12) gNil))) (by rfl) sc_after_tick.nd rfl rfl (sw_true rfl rfl rfl (by decide +kernel)) (pi_zipM false true (by rfl) T.n_zip (pa_cons (pe_propF c_Row_barrels (hr.mono (by decide)) (pv 0) rfl) (pa_cons (pv 5) pa_nil))) (blkOk_by (own := [("barrel", 11), ("wish", 12)]) (N := N_after_tick) (sc := defScope s_after_tick) (by decide +kernel)) (fun _ _ _ _ _ => (pg_tup rfl (pgs_cons (pg_name (i := 11) sc_after_tick.nd rfl (.inl rfl)) (pgs_cons (pg_name (i := 12) sc_after_tick.nd rfl (.inl rfl)) pgs_nil)))) (fun _ _ _ _ _ => pts_nil) (fun _ _ _ _ _ => (pe_op (opK (K := K) (r := rCatT) rfl op_catT) (pe_slice (slK (K := K) (r := rSlS) rfl sl_tupS) (pv 11) po_none (po_some pe_int)) (pe_tup (pa_cons (pe_tup (pa_cons (pv 12) pa_nil)) pa_nil)))))
      (pss_cons (ps_set (i := 7) sc_after_tick.nd rfl (.inl rfl) (pe_callF c_pass_ticks (hr.mono (by decide)) (by rfl) (pa_cons (pe_tup (pa_cons (pv 2) pa_nil)) (pa_cons (pv 6) (pa_cons (pe_fld (pv 1) rfl) pa_nil)))))
      (pss_cons (ps_set (i := 8) sc_after_tick.nd rfl (.inl rfl) (pe_callTy call_tuple_of (by rfl) T.n_tuple bt_tuple (pa_cons (pe_lc (own := [("passage", 14)]) (g := gName 14) (by rfl) sc_after_tick.nd (pi_list (pv 7)) (blkOk_by (own := [("passage", 14)]) (N := N_after_tick) (sc := defScope s_after_tick) (by decide +kernel)) (fun _ _ _ _ _ => (pg_name (i := 14) sc_after_tick.nd rfl (.inl rfl))) (fun _ _ _ _ _ => pts_nil) (fun _ _ _ _ _ => (pe_ix (ixK (K := K) (r := rIxL) rfl ix_list) (pe_fldK (K := K) rfl (pe_fld (pv 14) rfl)) pe_int (fun _ _ => rfl)))) pa_nil)))
      (pss_cons (ps_set (i := 9) sc_after_tick.nd rfl (.inl rfl) (pe_op op_add (pe_fld (pv 1) rfl) (pe_ix ix_list (pe_fld (pe_ix ix_list (pv 7) (pe_un un_neg pe_int) (fun _ _ => rfl)) rfl) pe_int (fun _ _ => rfl))))
      (pss_cons (ps_set (i := 10) sc_after_tick.nd rfl (.inl rfl) (pe_op op_sub (pe_op op_add (pe_fld (pv 1) rfl) (pe_callB (cr_sum rfl) (by rfl) T.n_sum bt_sum (pa_cons (pv 4) pa_nil))) (pe_callB (cr_sum rfl) (by rfl) T.n_sum bt_sum (pa_cons (pe_lc (own := [("passage", 14)]) (g := gName 14) (by rfl) sc_after_tick.nd (pi_list (pv 7)) (blkOk_by (own := [("passage", 14)]) (N := N_after_tick) (sc := defScope s_after_tick) (by decide +kernel)) (fun _ _ _ _ _ => (pg_name (i := 14) sc_after_tick.nd rfl (.inl rfl))) (fun _ _ _ _ _ => pts_nil) (fun _ _ _ _ _ => (pe_ix (ixK (K := K) (r := rIxL) rfl ix_list) (pe_fldK (K := K) rfl (pe_fld (pv 14) rfl)) pe_int (fun _ _ => rfl)))) pa_nil))))
      (pss_one (ps_ret (pe_makeF c_Moment__init (hr.mono (by decide)) (by rfl) (pa_cons (pe_op op_add (pe_fld (pv 1) rfl) pe_int) (pa_cons (pv 8) (pa_cons (pe_fld (pv 1) rfl) (pa_cons (pv 9) (pa_cons (pv 10) pa_nil)))))))))))))))), ?_⟩
    -- at
    refine ⟨_, rfl, m, CM, dm, _, _, rfl, m1, TM.cl_Moment, TM.na_Moment_tick, rfl, _, rfl, a, dx, _, rfl, h1, .ref a, rain, bs, rfl, hr0, fun ra hra => ?_⟩
    refine ⟨ra, _, rfl, .inr hra, _, _, rfl, rfl, by rw [List.length_map]; omega, ?_⟩
    have eat : ((t : Nat) : Int).fmod ((rain.map V.int).length : Nat) = ((t % rain.length : Nat) : Int) := by
      rw [List.length_map, Int.fmod_eq_emod_of_nonneg _ (by omega)]
      rfl
    dsimp only
    rw [eat]
    have hat := Nat.mod_lt t hl
    generalize hatd : t % rain.length = at' at hat
    -- wishes
    refine ⟨_, rfl, a, dx, _, rfl, h1, .ref a, rain, bs, rfl, hr0, fun ba hba => ?_⟩
    obtain ⟨vs, hv1, hv2, hv3⟩ := id hba
    refine ⟨ba, rfl, ⟨_, hv1⟩, fun D nD => lc_map walk_tup (by omega) (fun j => .int (at0 (bs.getD j dB).draws at')) nD (fun _ e => same_t e hv1) (fun j x H4 H5 hj s4 y => ?_) (fun H2 s2 e2 => ?_)⟩
    · obtain ⟨rfl, hx⟩ := y
      refine ⟨Same.refl _, fun R k1 => ?_⟩
      have hjb : bs[j]? = some bs[j] := List.getElem?_eq_getElem (by omega)
      obtain ⟨tb, db, rfl, w1, w2⟩ := hv3 j x _ hx hjb
      have hd := (ok.bars _ (List.getElem_mem (show j < bs.length by omega))).2.1
      have ed : bs.getD j dB = bs[j] := by rw [List.getD_eq_getElem?_getD, hjb]; rfl
      have k2 := k1 _ (Same.refl _)
      rw [ed] at k2
      exact ⟨rfl, _, rfl, tb, _, _, _, rfl, rfl, same_t s4 w1, rfl, _, rfl, db, _, _, _, rfl, rfl, same_t s4 w2, at_of (j := at') rfl (at0_get (by omega)), k2⟩
    · have ew : (List.range vs.length).map (fun j => V.int (at0 (bs.getD j dB).draws at')) = (bs.map fun b => at0 b.draws at').map V.int := by
        rw [hv2, List.map_map]
        apply List.ext_getElem
        · simp
        · intro i h1 h2
          simp at h1
          simp [h1]
      rw [ew] at e2
      have m12 := s2 _ _ m1
      have m32 := same_t s2 m3
      have hwl : (bs.map fun b => at0 b.draws at').length = bs.length := List.length_map ..
      have hmin : min ((bs.map fun b => at0 b.draws at').map V.int).length (ks.map V.bl).length = bs.length := by simp [hkl]
      -- allowed
      refine ⟨_, rfl, _, rfl, m, CM, dm, _, .ref la, rfl, m12, TM.cl_Moment, TM.na_Moment_locks, rfl, D, la, _, _, rfl, SqL.of e2, m32, fun D2 nD2 => lc_map (walk_zipM rfl) (by rw [hmin]; omega) (fun j => .int (wishC bs ks at' j)) nD2 (fun H' e => ⟨SqL.of (e _ _ e2), same_t e m32⟩) (fun j x H4 H5 hj s4 y => ?_) (fun H3 s3 e3 => ?_)⟩
      · rw [hmin] at hj
        obtain ⟨tt, z1, z2, rfl, ntt, rfl, w1, w2⟩ := y
        refine ⟨same_new ntt, fun R k1 => ?_⟩
        have hjb : bs[j]? = some bs[j] := List.getElem?_eq_getElem hj
        have ed : bs.getD j dB = bs[j] := by rw [List.getD_eq_getElem?_getD, hjb]; rfl
        have q1 : z1 = .int (at0 bs[j].draws at') := by
          have w1 : ((bs.map fun b => at0 b.draws at').map V.int)[j]? = some z1 := w1
          rw [List.map_map, List.getElem?_map, hjb] at w1
          exact (Option.some.inj w1).symm
        have q2 : z2 = .bl (ks.getD j false) := by
          have w2 : (ks.map V.bl)[j]? = some z2 := w2
          rw [List.getElem?_map, List.getElem?_eq_getElem (show j < ks.length by omega)] at w2
          rw [List.getD_eq_getElem?_getD, List.getElem?_eq_getElem (show j < ks.length by omega)]
          exact (Option.some.inj w2).symm
        subst q1
        subst q2
        have k2 := k1 _ (Same.refl _)
        unfold wishC at k2
        rw [ed] at k2
        refine ⟨tt, _, rfl, .inl (.inl upd_same), rfl, _, _, rfl, _, _, rfl, rfl, rfl, _, rfl, _, rfl, ?_⟩
        by_cases hk : ks.getD j false = true
        · rw [if_pos hk] at k2
          exact iteBT hk k2
        · rw [if_neg hk] at k2
          exact iteBF (by simpa using hk) ⟨_, rfl, k2⟩
      · rw [hmin] at e3
        have ew : (List.range bs.length).map (fun j => V.int (wishC bs ks at' j)) = ((List.range bs.length).map (wishC bs ks at')).map V.int := by rw [List.map_map]; rfl
        rw [ew] at e3
        have s23 := s2.trans s3
        -- the barrels with this tick's wish
        refine ⟨_, rfl, a, dx, _, rfl, s23 _ _ h1, .ref a, rain, bs, rfl, hr0.mono s23, fun bb hbb => ?_⟩
        obtain ⟨us, hu1, hu2, hu3⟩ := id hbb
        have hmin2 : min us.length (((List.range bs.length).map (wishC bs ks at')).map V.int).length = bs.length := by simp [hu2]
        refine ⟨_, rfl, bb, D2, _, _, rfl, hu1, SqL.of e3, fun D3 nD3 => lc_it (walk_zipM rfl) (fun i H' => Same H3 H' ∧ ∃ xs : List V, H' D3 = some (.lst xs) ∧ xs.length = i ∧ ∀ (j : Nat) (x : V), xs[j]? = some x → BarAt K H' x (barC bs ks at' j)) ⟨same_new nD3, [], upd_same, rfl, fun j x h => by simp at h⟩ (fun i H' _ p => ⟨same_t p.1 hu1, SqL.of (p.1 _ _ e3)⟩) ?_ ?_⟩
        · rintro i x H4 H5 hi ⟨s4, xs, x1, x2, x3⟩ ⟨tt, z1, z2, rfl, ntt, rfl, w1, w2⟩
          rw [hmin2] at hi
          have hib : bs[i]? = some bs[i] := List.getElem?_eq_getElem hi
          have ed : bs.getD i dB = bs[i] := by rw [List.getD_eq_getElem?_getD, hib]; rfl
          have q2 : z2 = .int (wishC bs ks at' i) := by
            have w2 : (((List.range bs.length).map (wishC bs ks at')).map V.int)[i]? = some z2 := w2
            rw [List.map_map, List.getElem?_map, List.getElem?_range hi] at w2
            exact (Option.some.inj w2).symm
          subst q2
          obtain ⟨tb, db, rfl, y1, y2⟩ := hu3 i z1 _ w1 hib
          have s5 := same_new (o := .tup [V.ref tb, .int (wishC bs ks at' i)]) ntt
          refine ⟨tt, _, rfl, .inl (.inl upd_same), rfl, _, _, rfl, _, _, rfl, rfl, rfl, _, rfl, _, rfl, tb, _, rfl, same_t (s4.trans s5) y1, fun q H6 s6 hq => ?_⟩
          refine ⟨_, rfl, by show 1 ≤ sizeLine; decide, fun wq nw => ⟨by show 1 ≤ sizeLine; decide, fun w2q nw2 => ?_⟩⟩
          have s7 := same_new (o := .tup [V.int (wishC bs ks at' i)]) nw
          have s8 := same_new (o := .tup [V.ref wq]) nw2
          have ec : cutV [V.str bs[i].name, .int bs[i].cap, .int bs[i].roof, .ref db] none (some 3) = [V.str bs[i].name, .int bs[i].cap, .int bs[i].roof] := rfl
          rw [ec] at hq
          refine ⟨q, w2q, _, _, rfl, rfl, same_t (s7.trans s8) hq, .inl (.inl upd_same), (by intro e; cases e), by show 4 ≤ 16777216; decide, fun e => (by cases e), fun _ p np => ?_⟩
          have s9 := same_new (o := .tup ([V.str bs[i].name, .int bs[i].cap, .int bs[i].roof] ++ [V.ref wq])) np
          have s59 := ((s5.trans s6).trans (s7.trans s8)).trans s9
          refine ⟨xs, s59 _ _ x1, by rw [x2]; exact Nat.lt_of_lt_of_le hi (Nat.le_trans hcn (by decide)), Same.mut (s4.trans s59) nD3, xs ++ [.ref p], upd_same, by rw [List.length_append, x2]; rfl, fun j x hx => ?_⟩
          have kp := fun (Hx : Hp) => Kp.upd (a := D3) (o := .lst (xs ++ [V.ref p])) (Kp.refl D3 Hx)
          by_cases hj : j < xs.length
          · rw [List.getElem?_append_left hj] at hx
            exact ((x3 j x hx).mono s59).kp (kp _) (s59 _ _ x1)
          · rw [List.getElem?_append_right (by omega)] at hx
            have hj0 : j = xs.length := by
              have := (List.getElem?_eq_some_iff.mp hx).1
              simp at this
              omega
            subst hj0
            rw [Nat.sub_self] at hx
            cases Option.some.inj hx
            rw [x2]
            have b9 : BarAt K (upd (upd (upd H6 wq (.tup [V.int (wishC bs ks at' i)])) w2q (.tup [V.ref wq])) p (.tup ([V.str bs[i].name, .int bs[i].cap, .int bs[i].roof] ++ [V.ref wq]))) (.ref p) (barC bs ks at' i) := by
              unfold barC
              rw [ed]
              exact ⟨p, wq, rfl, .inl (.inl upd_same), .inl (.inl ((s8.trans s9) _ _ upd_same))⟩
            exact b9.kp (kp _) (s59 _ _ x1)
        · rintro H4 ⟨s4, xs, x1, x2, x3⟩
          rw [hmin2] at x2
          have s04 := s23.trans s4
          have hL : LBars K H4 D3 (barsC bs ks at') := by
            refine ⟨xs, x1, by rw [x2]; unfold barsC; simp, fun j x b hx hb => ?_⟩
            have hj : j < bs.length := by have := (List.getElem?_eq_some_iff.mp hx).1; omega
            rw [barsC_get hj] at hb
            rw [← Option.some.inj hb]
            exact x3 j x hx
          refine ⟨_, rfl, by show 1 ≤ sizeLine; decide, fun rt nrt => ?_⟩
          have s5 := same_new (o := .tup [V.int am]) nrt
          refine ⟨_, rfl, _, rfl, m, CM, dm, _, .ref ha, rfl, (s04.trans s5) _ _ m1, TM.cl_Moment, TM.na_Moment_heights, rfl, rt, D3, ha, [am], barsC bs ks at', hs, rfl, .inl (.inl upd_same), hL.mono s5, same_t (s04.trans s5) m2, by show 1 ≤ 3000; decide, by unfold barsC; rw [List.length_map, List.length_range]; omega, fun r hr => ?_, fun pp H6 s6 np hp => ?_⟩
          · rw [List.mem_singleton.mp hr]
            exact ⟨am0, am1⟩
          · obtain ⟨ps, hp1, hp2, hp3⟩ := hp
            rw [pasC_length hhl] at hp2
            have hp1 := rmS_same _ _ hp1
            have s06 := (s04.trans s5).trans s6
            have pas : ∀ {H' : Hp} (j : Nat) (x : V), Same H6 H' → ps[j]? = some x → ∃ (a dx l1 l2 l3 l4 : Addr) (c : Int), x = .ref a ∧ H' a = some (.ins CP dx (pF (hs.getD j 0) c l1 l2 l3 l4)) ∧ H' l1 = some (vi [(colC am at' bs hs ks j).lv]) ∧ H' l2 = some (vi [(colC am at' bs hs ks j).dr]) ∧ H' l4 = some (vi [(colC am at' bs hs ks j).ov]) := fun {H'} j x s hx => by
              have hjl : j < bs.length := by have := (List.getElem?_eq_some_iff.mp hx).1; omega
              obtain ⟨a, dx, l1, l2, l3, l4, rfl, g0, g1, g2, g3, g4⟩ := hp3 j x _ hx (pasC hhl hjl)
              exact ⟨a, dx, l1, l2, l3, l4, _, rfl, s _ _ (rmS_same _ _ g0), s _ _ (rmS_same _ _ g1), s _ _ (rmS_same _ _ g2), s _ _ (rmS_same _ _ g4)⟩
            -- heights
            refine ⟨_, rfl, pp, rfl, ⟨_, SqL.of hp1⟩, fun D4 nD4 => lc_map walk_list (by omega) (fun j => .int (colC am at' bs hs ks j).lv) nD4 (fun _ e => SqL.of (e _ _ hp1)) (fun j x H4 H5 hj s7 y => ?_) (fun H7 s7 e7 => ?_)⟩
            · obtain ⟨rfl, hx⟩ := y
              refine ⟨Same.refl _, fun R k1 => ?_⟩
              obtain ⟨pa, pdx, l1, l2, l3, l4, c, rfl, g0, g1, g2, g4⟩ := pas j x s7 hx
              exact ⟨rfl, _, rfl, pa, CP, pdx, _, .ref l1, rfl, g0, T.cl_Passage, T.na_Passage_after, rfl, l1, _, _, _, rfl, rfl, SqL.of g1, rfl, k1 _ (Same.refl _)⟩
            · have eh : (List.range ps.length).map (fun j => V.int (colC am at' bs hs ks j).lv) = ((List.range bs.length).map fun i => (colC am at' bs hs ks i).lv).map V.int := by
                rw [hp2, List.map_map]
                rfl
              rw [eh] at e7
              refine ⟨D4, _, rfl, .inl ⟨SqL.of e7, fun ht nht => ?_⟩⟩
              obtain ⟨H8, q8, s8, e8⟩ : ∃ H8, upd H7 ht (.tup (((List.range bs.length).map fun i => (colC am at' bs hs ks i).lv).map V.int)) = H8 ∧ Same H7 H8 ∧ H8 ht = some (.tup (((List.range bs.length).map fun i => (colC am at' bs hs ks i).lv).map V.int)) := ⟨_, rfl, same_new nht, upd_same⟩
              rw [q8]
              have s68 := s7.trans s8
              have s08 := s06.trans s68
              have hp18 := s68 _ _ hp1
              -- lost
              have hlast : ps[bs.length - 1]? = some (ps[bs.length - 1]'(by omega)) := List.getElem?_eq_getElem (by omega)
              obtain ⟨pa, pdx, l1, l2, l3, l4, c, ea, g0, g1, g2, g4⟩ := pas _ _ s68 hlast
              rw [ea] at hlast
              refine ⟨_, rfl, m, CM, dm, _, _, rfl, s08 _ _ m1, TM.cl_Moment, TM.na_Moment_lost, rfl, _, rfl, _, rfl, pp, _, _, _, rfl, rfl, SqL.of hp18, atI_neg1 (by rw [hp2]; exact hlast) (by omega), pa, CP, pdx, _, .ref l4, rfl, g0, T.cl_Passage, T.na_Passage_over, rfl, l4, _, _, _, rfl, rfl, SqL.of g4, rfl, _, _, rfl, rfl, ?_⟩
              -- missed
              have e28 : H8 D = some (.lst ((bs.map fun b => at0 b.draws at').map V.int)) := ((s3.trans s4).trans ((s5.trans s6).trans s68)) _ _ e2
              refine ⟨_, rfl, m, CM, dm, _, _, rfl, s08 _ _ m1, TM.cl_Moment, TM.na_Moment_missed, rfl, _, rfl, D, _, rfl, SqL.of e28, _, _, rfl, rfl, ?_⟩
              refine ⟨_, rfl, pp, rfl, ⟨_, SqL.of hp18⟩, fun D5 nD5 => lc_map walk_list (by omega) (fun j => .int (colC am at' bs hs ks j).dr) nD5 (fun _ e => SqL.of (e _ _ hp18)) (fun j x H4 H5 hj s9 y => ?_) (fun H9 s9 e9 => ?_)⟩
              · obtain ⟨rfl, hx⟩ := y
                refine ⟨Same.refl _, fun R k1 => ?_⟩
                obtain ⟨pa, pdx, l1, l2, l3, l4, c, rfl, g0, g1, g2, g4⟩ := pas j x (s68.trans s9) hx
                exact ⟨rfl, _, rfl, pa, CP, pdx, _, .ref l2, rfl, g0, T.cl_Passage, T.na_Passage_drawn, rfl, l2, _, _, _, rfl, rfl, SqL.of g2, rfl, k1 _ (Same.refl _)⟩
              · have ed : (List.range ps.length).map (fun j => V.int (colC am at' bs hs ks j).dr) = ((List.range bs.length).map fun j => (colC am at' bs hs ks j).dr).map V.int := by
                  rw [hp2, List.map_map]
                  rfl
                rw [ed] at e9
                refine ⟨D5, _, rfl, SqL.of e9, _, _, rfl, rfl, ?_⟩
                have s09 := s08.trans s9
                refine ⟨_, rfl, m, CM, dm, _, _, rfl, s09 _ _ m1, TM.cl_Moment, TM.na_Moment_tick, rfl, _, _, rfl, rfl, _, rfl, _, rfl, m, CM, dm, _, .ref la, rfl, s09 _ _ m1, TM.cl_Moment, TM.na_Moment_locks, rfl, _, rfl, _, rfl, fun x dx' nx ndx hne => ?_⟩
                have sN := (same_new ndx (o := .own x)).trans (same_new (o := .ins CM dx' []) (by rw [upd_ne (Ne.symm hne)]; exact nx))
                refine ⟨x, dx', ht, la, _, _, _, rfl, upd_same, fun H' kp e => ⟨rfl, ?_⟩⟩
                have sH : Same H H' := fun b o e => kp _ _ ((s09.trans sN) _ _ e) (ne_of_none (s09 _ _ e) nx)
                have s8H : Same H8 H' := fun b o e => kp _ _ ((s9.trans sN) _ _ e) (ne_of_none (s9 _ _ e) nx)
                refine k x H' sH (s09.free nx) ⟨dx', ht, la, ?_, ?_, same_t sH m3⟩
                · unfold nxt
                  dsimp only
                  rw [hatd, Int.natCast_add]
                  exact e
                · unfold nxt
                  dsimp only
                  rw [hatd]
                  exact .inl (.inl (s8H _ _ e8))
end
end Bk
set_option Elab.async false
set_option maxRecDepth 100000
set_option maxHeartbeats 2000000
namespace Bk
open PySem PySem.Spec PyProof.Rows L2 LamX
/-! ### a live row at a, at any moment -/
abbrev liF (rv : V) (m d u : Addr) : List (Str × V) := [("_row", rv), ("_moment", .ref m), ("_done", .ref d), ("_undone", .ref u)]
/-- an address whose thing may change -/
def Mvb (CV : Addr) (H : Hp) (b : Addr) : Prop := (∃ xs, H b = some (.lst xs)) ∨ (∃ dx fs, H b = some (.ins CV dx fs)) ∨ ∃ kvs, H b = some (.dK kvs)
def MvL (CV : Addr) (H : Hp) (L : List Addr) : Prop := ∀ b ∈ L, Mvb CV H b
section
variable {K : PySem.W.Frag} {CR CM CV : Addr} {L : List Addr} {H H' : Hp}
theorem MvL.no {b : Addr} {o : HO} (m : MvL CV H L) (e : H b = some o) (n1 : ∀ xs, o ≠ .lst xs) (n2 : ∀ dx fs, o ≠ .ins CV dx fs) (n3 : ∀ kvs, o ≠ .dK kvs) : b ∉ L := fun hm => by
  rcases m b hm with ⟨xs, q⟩ | ⟨dx, fs, q⟩ | ⟨kvs, q⟩
  · rw [q] at e; exact n1 _ (Option.some.inj e).symm
  · rw [q] at e; exact n2 _ _ (Option.some.inj e).symm
  · rw [q] at e; exact n3 _ (Option.some.inj e).symm
theorem MvL.tupN {b : Addr} {xs : List V} (m : MvL CV H L) (e : H b = some (.tup xs)) : b ∉ L := m.no e (fun _ z => by cases z) (fun _ _ z => by cases z) fun _ z => by cases z
theorem MvL.insN {b C dx : Addr} {fs : List (Str × V)} (m : MvL CV H L) (hC : C ≠ CV) (e : H b = some (.ins C dx fs)) : b ∉ L := m.no e (fun _ z => by cases z) (fun _ _ z => hC (HO.ins.inj z).1) fun _ z => by cases z
theorem kl_tup {b : Addr} {xs : List V} (k : KeepL L H H') (m : MvL CV H L) (e : H b = some (.tup xs)) : H' b = some (.tup xs) := k _ _ e (m.tupN e)
theorem kl_ins {b C dx : Addr} {fs : List (Str × V)} (k : KeepL L H H') (m : MvL CV H L) (hC : C ≠ CV) (e : H b = some (.ins C dx fs)) : H' b = some (.ins C dx fs) := k _ _ e (m.insN hC e)
theorem kl_sqt {b : Addr} {xs : List V} (k : KeepL L H H') (m : MvL CV H L) (h : SqT K H b xs) : SqT K H' b xs := by
  rcases h with (h | ⟨u, h⟩) | h
  · exact .inl (.inl (kl_tup k m h))
  · exact .inl (.inr ⟨u, k _ _ h (m.no h (fun _ z => by cases z) (fun _ _ z => by cases z) fun _ z => by cases z)⟩)
  · exact .inr h
theorem kl_bar {v : V} {b : Bar} (k : KeepL L H H') (m : MvL CV H L) (h : BarAt K H v b) : BarAt K H' v b := by
  obtain ⟨t, d, e, h1, h2⟩ := h
  exact ⟨t, d, e, kl_sqt k m h1, kl_sqt k m h2⟩
theorem kl_bars {a : Addr} {bs : List Bar} (k : KeepL L H H') (m : MvL CV H L) (h : BarsAt K H a bs) : BarsAt K H' a bs := by
  obtain ⟨vs, h1, h2, h3⟩ := h
  exact ⟨vs, kl_sqt k m h1, h2, fun i v b hv hb => kl_bar k m (h3 i v b hv hb)⟩
theorem kl_row {v : V} {rain : List Int} {bs : List Bar} (k : KeepL L H H') (m : MvL CV H L) (hC : CR ≠ CV) (h : RowAt K CR H v rain bs) : RowAt K CR H' v rain bs := by
  obtain ⟨a, dx, ra, ba, e, h1, h2, h3⟩ := h
  exact ⟨a, dx, ra, ba, e, kl_ins k m hC h1, kl_sqt k m h2, kl_bars k m h3⟩
theorem kl_mo {a : Addr} {x : Mo} (k : KeepL L H H') (m : MvL CV H L) (hC : CM ≠ CV) (h : MoAt K CM H a x) : MoAt K CM H' a x := by
  obtain ⟨dx, ha, la, h1, h2, h3⟩ := h
  exact ⟨dx, ha, la, kl_ins k m hC h1, kl_sqt k m h2, kl_sqt k m h3⟩
/-- one step of the list of what was done: an operation and a moment -/
def StepAt (K : PySem.W.Frag) (CM : Addr) (H : Hp) (v : V) (p : List V × Mo) : Prop := ∃ s q m : Addr, v = .ref s ∧ H s = some (.tup [.ref q, .ref m]) ∧ H q = some (.tup p.1) ∧ MoAt K CM H m p.2
def StepsAt (K : PySem.W.Frag) (CM : Addr) (H : Hp) (d : Addr) (l : List (List V × Mo)) : Prop := ∃ xs : List V, H d = some (.lst xs) ∧ xs.length = l.length ∧ ∀ (i : Nat) (v : V) (p : List V × Mo), xs[i]? = some v → l[i]? = some p → StepAt K CM H v p
theorem StepAt.mono {v : V} {p : List V × Mo} (e : Same H H') (h : StepAt K CM H v p) : StepAt K CM H' v p := by
  obtain ⟨s, q, m, e1, h1, h2, h3⟩ := h
  exact ⟨s, q, m, e1, e _ _ h1, e _ _ h2, h3.mono e⟩
theorem StepsAt.mono {d : Addr} {l : List (List V × Mo)} (e : Same H H') (h : StepsAt K CM H d l) : StepsAt K CM H' d l := by
  obtain ⟨xs, h1, h2, h3⟩ := h
  exact ⟨xs, e _ _ h1, h2, fun i v p hv hp => (h3 i v p hv hp).mono e⟩
theorem kl_step {v : V} {p : List V × Mo} (k : KeepL L H H') (m : MvL CV H L) (hC : CM ≠ CV) (h : StepAt K CM H v p) : StepAt K CM H' v p := by
  obtain ⟨s, q, mm, e1, h1, h2, h3⟩ := h
  exact ⟨s, q, mm, e1, kl_tup k m h1, kl_tup k m h2, kl_mo k m hC h3⟩
theorem kl_steps {d : Addr} {l : List (List V × Mo)} (k : KeepL L H H') (m : MvL CV H L) (hC : CM ≠ CV) (hd : d ∉ L) (h : StepsAt K CM H d l) : StepsAt K CM H' d l := by
  obtain ⟨xs, h1, h2, h3⟩ := h
  exact ⟨xs, k _ _ h1 hd, h2, fun i v p hv hp => kl_step k m hC (h3 i v p hv hp)⟩
def LiAt (K : PySem.W.Frag) (CR CM CV : Addr) (H : Hp) (a d u : Addr) (rain : List Int) (bs : List Bar) (x : Mo) (dn un : List (List V × Mo)) : Prop :=
  ∃ (dx m : Addr) (rv : V), H a = some (.ins CV dx (liF rv m d u)) ∧ RowAt K CR H rv rain bs ∧ MoAt K CM H m x ∧ StepsAt K CM H d dn ∧ StepsAt K CM H u un ∧ d ≠ u
theorem LiAt.mono {a d u : Addr} {rain : List Int} {bs : List Bar} {x : Mo} {dn un : List (List V × Mo)} (e : Same H H') (h : LiAt K CR CM CV H a d u rain bs x dn un) : LiAt K CR CM CV H' a d u rain bs x dn un := by
  obtain ⟨dx, m, rv, h1, h2, h3, h4, h5, h6⟩ := h
  exact ⟨dx, m, rv, e _ _ h1, h2.mono e, h3.mono e, h4.mono e, h5.mono e, h6⟩
theorem LiAt.mv {a d u : Addr} {rain : List Int} {bs : List Bar} {x : Mo} {dn un : List (List V × Mo)} (h : LiAt K CR CM CV H a d u rain bs x dn un) : MvL CV H [a, d, u] := fun b hb => by
  obtain ⟨dx, m, rv, h1, h2, h3, ⟨xs, h4, _⟩, ⟨ys, h5, _⟩, h6⟩ := h
  simp only [List.mem_cons, List.not_mem_nil, or_false] at hb
  rcases hb with rfl | rfl | rfl
  · exact .inr (.inl ⟨_, _, h1⟩)
  · exact .inl ⟨_, h4⟩
  · exact .inl ⟨_, h5⟩
theorem MvL.sub {L' : List Addr} (m : MvL CV H L) (s : ∀ b ∈ L', b ∈ L) : MvL CV H L' := fun b hb => m b (s b hb)
theorem kl_li {a d u : Addr} {rain : List Int} {bs : List Bar} {x : Mo} {dn un : List (List V × Mo)} (k : KeepL L H H') (m : MvL CV H L) (hR : CR ≠ CV) (hM : CM ≠ CV) (ha : a ∉ L) (hd : d ∉ L) (hu : u ∉ L) (h : LiAt K CR CM CV H a d u rain bs x dn un) : LiAt K CR CM CV H' a d u rain bs x dn un := by
  obtain ⟨dx, mm, rv, h1, h2, h3, h4, h5, h6⟩ := h
  exact ⟨dx, mm, rv, k _ _ h1 ha, kl_row k m hR h2, kl_mo k m hM h3, kl_steps k m hM hd h4, kl_steps k m hM hu h5, h6⟩
theorem kl_of {L' : List Addr} (k : KeepL L H H') (s : ∀ b ∈ L, b ∈ L') : KeepL L' H H' := fun b o e n => k b o e fun z => n (s b z)
end
/-! ### numbers out of range -/
def numOk (i : Int) : Bool := decide (i.natAbs.log2 < 1920) && decide (((toString i : String) : Str).length ≤ 40)
section
variable {P : Program} {w : World} {K : PySem.W.Frag} {mg : Str → Option Value} {base : Heap} {CP CR CM CV CN CU : Addr}
def spCheckNumX (CN : Addr) : Sp := fun vs H Q E => ∃ n lo hi : Int, vs = [.int n, .int lo, .int hi] ∧ numOk lo = true ∧ numOk hi = true ∧ (lo ≤ n → n ≤ hi → Q .non H) ∧ (¬ (lo ≤ n ∧ n ≤ hi) → E (.ref CN) none H)
theorem ok_check_numX {f : Addr} {fd : FuncData} (F : Fun K "check_number" "check_number" s_check_number f fd) (T : Txt K mg CP CR) (c_is_number : Callee P w K mg base "is_number" 1 spIsNumber) (e_InvalidNumber : ExN K mg "InvalidNumber" CN) :
    FnOk P w K mg base (L2.CX P w) 2 f fd P_check_number (spCheckNumX CN) := by
  refine F.okX sc_check_number (fun vs H Q E h => ?_) (fun cdv A outer s H vs Q E hr h => ?_)
  · obtain ⟨n, lo, hi, rfl, _⟩ := h
    rfl
  · obtain ⟨n, lo, hi, rfl, o1, o2, k, kx⟩ := h
    have tk : Takes (cxOf (L2.CX P w) P w K mg base N_check_number "check_number" (defScope s_check_number) f cdv A outer s H E) (fun cls d _ H => E cls d H) := takes_of rfl rfl rfl rfl
    unfold numOk at o1 o2
    simp only [Bool.and_eq_true, decide_eq_true_eq] at o1 o2
    refine ⟨_, (pss_one (ps_if (pt_not (pt_val (pe_callF c_is_number (hr.mono (by decide)) (by rfl) (pa_cons (pv 0) (pa_cons (pv 1) (pa_cons (pv 2) pa_nil))))))
        (pss_one (ps_raise rfl tk (pmk_exN e_InvalidNumber (by rfl) (pe_joined (.cons pe_str (.cons (pe_fmt (pv 1)) (.cons pe_str (.cons (pe_fmt (pv 2)) .nil))))))))
        pss_nil)), ?_⟩
    refine ⟨_, rfl, _, rfl, _, rfl, n, lo, hi, rfl, _, rfl, ?_⟩
    by_cases h : lo ≤ n ∧ n ≤ hi
    · exact iteBF (by rw [decide_eq_true h]; rfl) (k h.1 h.2)
    · refine iteBT (by rw [decide_eq_false h]; rfl) ?_
      have hl1 : (Str.empty ++ ("not a number from " : Str) ++ ((toString lo : String) : Str)).length ≤ 100 := by
        rw [Str.length_append]
        exact Nat.le_trans (Nat.add_le_add_left o1.2 _) (by decide)
      refine ⟨_, rfl, by decide, _, rfl, .inr ⟨lo, rfl, o1.1, _, rfl, ?_, _, rfl, ?_, _, rfl, .inr ⟨hi, rfl, o2.1, _, rfl, ?_, kx h⟩⟩⟩
      · exact Nat.le_trans hl1 (by decide)
      · rw [Str.length_append]
        exact Nat.le_trans (Nat.add_le_add_right hl1 _) (by decide)
      · rw [Str.length_append, Str.length_append]
        exact Nat.le_trans (Nat.add_le_add (Nat.add_le_add_right hl1 _) o2.2) (by decide)
end
end Bk
set_option Elab.async false
set_option maxRecDepth 100000
set_option maxHeartbeats 2000000
namespace Bk
open PySem PySem.Spec PyProof.Rows L2 LamX
section
variable {P : Program} {w : World} {K : PySem.W.Frag} {mg : Str → Option Value} {base : Heap} {CP CR CM CV CN CU : Addr}
/-- what an operation that took effect leaves -/
def WentOn (K : PySem.W.Frag) (CR CM CV : Addr) (H H' : Hp) (a d : Addr) (rain : List Int) (bs : List Bar) (x' : Mo) (dn : List (List V × Mo)) : Prop := ∃ u', KeepL [a, d] H H' ∧ H u' = none ∧ LiAt K CR CM CV H' a d u' rain bs x' dn []
def spGoG (K : PySem.W.Frag) (CR CM CV : Addr) : Sp := fun vs H Q _ => ∃ (a d u op m' : Addr) (rain : List Int) (bs : List Bar) (x x' : Mo) (dn un : List (List V × Mo)) (l : List V), vs = [.ref a, .ref op, .ref m'] ∧ LiAt K CR CM CV H a d u rain bs x dn un ∧ H op = some (.tup l) ∧ MoAt K CM H m' x' ∧ dn.length ≤ 1000 ∧
  ∀ H' u', KeepL [a, d] H H' → H u' = none → LiAt K CR CM CV H' a d u' rain bs x' (dn ++ [(l, x)]) [] → (∃ dx rv, H' a = some (.ins CV dx (liF rv m' d u'))) → Q .non H'
theorem ok_goG {f : Addr} {fd : FuncData} (F : Fun K "_go_on" "LiveRow._go_on" s_LiveRow_go_on f fd) (T : Txt K mg CP CR) (TV : Txt_LiveRow K mg CV) (hR : CR ≠ CV) (hM : CM ≠ CV) : FnOk P w K mg base CX0 1 f fd P_LiveRow_go_on (spGoG K CR CM CV) := by
  refine F.ok sc_LiveRow_go_on (fun vs H Q E h => ?_) (fun cdv A outer s H vs Q E hr h => ?_)
  · obtain ⟨a, d, u, op, m', rain, bs, x, x', dn, un, l, rfl, _⟩ := h
    rfl
  · obtain ⟨a, d, u, op, m', rain, bs, x, x', dn, un, l, rfl, hli, hop, hm', hl, k⟩ := h
    have mv := hli.mv
    obtain ⟨dx, m, rv, h1, hrow, hm, ⟨xs, hd, hxl, hxs⟩, _, hdu⟩ := id hli
    have nad : a ≠ d := fun e => by rw [e, hd] at h1; cases h1
    refine ⟨_, (pss_cons (ps_expr (pe_bm PySem.F.plainAttrs_list PySem.F.slot_list_append PySem.F.type_list_append mt_append (pe_fld (pv 0) rfl) (pa_cons (pe_tup (pa_cons (pv 1) (pa_cons (pe_fld (pv 0) rfl) pa_nil))) pa_nil)))
      (pss_cons (ps_fld (pv 0) (pe_lst pa_nil) rfl)
      (pss_one (ps_fld (pv 0) (pv 2) rfl)))), ?_⟩
    refine ⟨_, rfl, a, CV, dx, _, .ref d, rfl, h1, TV.cl_LiveRow, TV.na_LiveRow_done, rfl, .inl ⟨rfl, _, SqL.of hd⟩, _, rfl, _, rfl, a, CV, dx, _, .ref m, rfl, h1, TV.cl_LiveRow, TV.na_LiveRow_moment, rfl, by show 2 ≤ sizeLine; decide, fun tq ntq => ?_⟩
    have s1 := same_new (o := .tup [V.ref op, V.ref m]) ntq
    have mv1 : MvL CV (upd H tq (.tup [V.ref op, V.ref m])) [a, d] := fun b hb => by
      simp only [List.mem_cons, List.not_mem_nil, or_false] at hb
      rcases hb with rfl | rfl
      · exact .inr (.inl ⟨_, _, s1 _ _ h1⟩)
      · exact .inl ⟨_, s1 _ _ hd⟩
    refine ⟨d, xs, _, rfl, rfl, s1 _ _ hd, by rw [hxl]; exact Nat.lt_of_le_of_lt hl (by decide), ?_⟩
    refine ⟨by decide, fun u' nu => ?_⟩
    have hd2 : (upd (upd H tq (.tup [V.ref op, V.ref m])) d (.lst (xs ++ [.ref tq]))) d = some (.lst (xs ++ [.ref tq])) := upd_same
    have ha2 : (upd (upd H tq (.tup [V.ref op, V.ref m])) d (.lst (xs ++ [.ref tq]))) a = some (.ins CV dx (liF rv m d u)) := by rw [upd_ne nad]; exact s1 _ _ h1
    have s3 := same_new (o := .lst []) nu
    have ndu : d ≠ u' := ne_of_none hd2 nu
    have nau : a ≠ u' := ne_of_none ha2 nu
    have nuH : H u' = none := by
      rw [upd_ne ndu.symm] at nu
      exact s1.free nu
    refine ⟨_, rfl, a, CV, dx, _, rfl, s3 _ _ ha2, TV.cl_LiveRow, TV.na_LiveRow_undone, by show 4 < 1000; decide, ?_⟩
    refine ⟨_, rfl, _, rfl, a, CV, dx, _, rfl, upd_same, TV.cl_LiveRow, TV.na_LiveRow_moment, by show 4 < 1000; decide, ?_⟩
    have k1 : KeepL [a, d] (upd H tq (.tup [V.ref op, V.ref m])) (upd (upd (upd (upd (upd H tq (.tup [V.ref op, V.ref m])) d (.lst (xs ++ [.ref tq]))) u' (.lst [])) a (.ins CV dx (putF "_undone" (V.ref u') (liF rv m d u)))) a (.ins CV dx (putF "_moment" (V.ref m') (putF "_undone" (V.ref u') (liF rv m d u))))) := fun b o e hb => by
      have hba : b ≠ a := fun z => hb (by rw [z]; exact List.mem_cons_self)
      have hbd : b ≠ d := fun z => hb (by rw [z]; exact List.mem_cons_of_mem _ List.mem_cons_self)
      rw [upd_ne hba, upd_ne hba]
      refine s3 _ _ ?_
      rw [upd_ne hbd]
      exact e
    generalize hH5 : upd (upd (upd (upd (upd H tq (.tup [V.ref op, V.ref m])) d (.lst (xs ++ [.ref tq]))) u' (.lst [])) a (.ins CV dx (putF "_undone" (V.ref u') (liF rv m d u)))) a (.ins CV dx (putF "_moment" (V.ref m') (putF "_undone" (V.ref u') (liF rv m d u)))) = H5 at k1
    have a5 : H5 a = some (.ins CV dx (liF rv m' d u')) := by rw [← hH5]; exact upd_same
    have d5 : H5 d = some (.lst (xs ++ [.ref tq])) := by rw [← hH5, upd_ne nad.symm, upd_ne nad.symm]; exact s3 _ _ hd2
    have u5 : H5 u' = some (.lst []) := by rw [← hH5, upd_ne nau.symm, upd_ne nau.symm]; exact upd_same
    have k0 : KeepL [a, d] H H5 := fun b o e hb => k1 b o (s1 _ _ e) hb
    have hli1 := hli.mono s1
    refine k H5 u' k0 nuH ⟨dx, m', rv, a5, kl_row k1 mv1 hR (hrow.mono s1), kl_mo k1 mv1 hM (hm'.mono s1), ⟨_, d5, by rw [List.length_append, List.length_append, hxl]; rfl, fun i v p hv hp => ?_⟩, ⟨[], u5, rfl, fun i v p hv => by simp at hv⟩, ndu⟩ ⟨dx, rv, a5⟩
    by_cases hi : i < xs.length
    · rw [List.getElem?_append_left hi] at hv
      rw [List.getElem?_append_left (by omega)] at hp
      exact kl_step k1 mv1 hM ((hxs i v p hv hp).mono s1)
    · rw [List.getElem?_append_right (by omega)] at hv hp
      have hi0 : i = xs.length := by
        have := (List.getElem?_eq_some_iff.mp hv).1
        simp at this
        omega
      subst hi0
      rw [Nat.sub_self] at hv
      rw [hxl, Nat.sub_self] at hp
      cases Option.some.inj hv
      cases Option.some.inj hp
      exact ⟨tq, op, m, rfl, kl_tup k1 mv1 upd_same, kl_tup k1 mv1 (s1 _ _ hop), kl_mo k1 mv1 hM (hm.mono s1)⟩
def spPourG (K : PySem.W.Frag) (CR CM CV CN : Addr) : Sp := fun vs H Q E => ∃ (a d u : Addr) (rain : List Int) (bs : List Bar) (x : Mo) (dn un : List (List V × Mo)) (am : Int), vs = [.ref a, .int am] ∧ LiAt K CR CM CV H a d u rain bs x dn un ∧ RowOk rain bs ∧ 1 ≤ bs.length ∧ MoOk bs x ∧ dn.length ≤ 1000 ∧
  (0 ≤ am → am ≤ 1000000 → ∀ H' u', KeepL [a, d] H H' → H u' = none → LiAt K CR CM CV H' a d u' rain bs (nxt rain.length bs x am) (dn ++ [([.str "pour", .int am], x)]) [] → Q (.int ((nxt rain.length bs x am).lo - x.lo)) H') ∧ (¬ (0 ≤ am ∧ am ≤ 1000000) → E (.ref CN) none H)
theorem ok_pourG {f : Addr} {fd : FuncData} (F : Fun K "pour" "LiveRow.pour" s_LiveRow_pour f fd) (T : Txt K mg CP CR) (TM : Txt_Moment K mg CM) (TV : Txt_LiveRow K mg CV) (hR : CR ≠ CV) (hM : CM ≠ CV) (x_check_number : CalleeX P w K mg base "check_number" 2 (spCheckNumX CN)) (c_LiveRow_go_on : CalleeM P w K mg base CV "_go_on" 1 (spGoG K CR CM CV))
    (c_after_tick : Callee P w K mg base "after_tick" 5 (spAfterG K CR CM)) : FnOk P w K mg base (L2.CX P w) 6 f fd P_LiveRow_pour (spPourG K CR CM CV CN) := by
  refine F.okX sc_LiveRow_pour (fun vs H Q E h => ?_) (fun cdv A outer s H vs Q E hr h => ?_)
  · obtain ⟨a, d, u, rain, bs, x, dn, un, am, rfl, _⟩ := h
    rfl
  · obtain ⟨a, d, u, rain, bs, x, dn, un, am, rfl, hli, ok, hb1, mok, hl, k, kx⟩ := h
    have tk : Takes (cxOf (L2.CX P w) P w K mg base N_LiveRow_pour "LiveRow.pour" (defScope s_LiveRow_pour) f cdv A outer s H E) (fun cls d _ H => E cls d H) := takes_of rfl rfl rfl rfl
    have mv := hli.mv
    obtain ⟨dx, m, rv, h1, hrow, hm, hd, _, hdu⟩ := id hli
    refine ⟨_, (pss_cons (ps_expr (pe_callFX x_check_number tk (hr.mono (by decide)) (by rfl) (pa_cons (pv 1) (pa_cons pe_int (pa_cons (pe_globI (by rfl) T.g_MAX_FALL) pa_nil)))))
      (pss_cons (ps_set (i := 2) sc_LiveRow_pour.nd rfl (.inl rfl) (pe_fld (pv 0) rfl))
      (pss_cons (ps_expr (pe_methF c_LiveRow_go_on (hr.mono (by decide)) (pv 0) (pa_cons (pe_tup (pa_cons pe_str (pa_cons (pv 1) pa_nil))) (pa_cons (pe_callF c_after_tick (hr.mono (by decide)) (by rfl) (pa_cons (pe_fld (pv 0) rfl) (pa_cons (pv 2) (pa_cons (pv 1) pa_nil)))) pa_nil))))
      (pss_one (ps_ret (pe_op op_sub (pe_fld (pe_fld (pv 0) rfl) rfl) (pe_fld (pv 2) rfl))))))), ?_⟩
    refine ⟨_, rfl, _, 0, 1000000, rfl, by decide +kernel, by decide +kernel, fun a0 a1 => ?_, kx⟩
    refine ⟨_, rfl, a, CV, dx, _, .ref m, rfl, h1, TV.cl_LiveRow, TV.na_LiveRow_moment, rfl, ?_⟩
    refine ⟨_, rfl, a, dx, _, rfl, h1, rfl, _, rfl, by show 2 ≤ sizeLine; decide, fun op nop => ?_⟩
    have s1 := same_new (o := .tup [V.str "pour", V.int am]) nop
    refine ⟨_, rfl, a, CV, dx, _, rv, rfl, s1 _ _ h1, TV.cl_LiveRow, TV.na_LiveRow_row, rfl, _, rfl, _, rfl, rv, m, rain, bs, x, am, rfl, hrow.mono s1, ok, hb1, hm.mono s1, mok, a0, a1, fun m' H2 s2 nm' hm' => ?_⟩
    have s12 := s1.trans s2
    refine ⟨a, d, u, op, m', rain, bs, x, _, dn, un, [V.str "pour", V.int am], rfl, hli.mono s12, s2 _ _ upd_same, hm', hl, fun H3 u' e3 n3 hl3 ⟨dx3, rv3, a3⟩ => ?_⟩
    have mv2 : MvL CV H2 [a, d] := (hli.mono s12).mv.sub fun b hb => by
      simp only [List.mem_cons, List.not_mem_nil, or_false] at hb ⊢
      rcases hb with rfl | rfl <;> simp
    have hm3 := kl_mo e3 mv2 hM hm'
    have hm30 := kl_mo e3 mv2 hM (hm.mono s12)
    obtain ⟨dm, hh, la, g1, _⟩ := id hm3
    obtain ⟨dm0, hh0, la0, g10, _⟩ := id hm30
    refine ⟨_, rfl, a, CV, dx3, _, .ref m', rfl, a3, TV.cl_LiveRow, TV.na_LiveRow_moment, rfl, m', CM, dm, _, _, rfl, g1, TM.cl_Moment, TM.na_Moment_lost, rfl, _, rfl, m, CM, dm0, _, _, rfl, g10, TM.cl_Moment, TM.na_Moment_lost, rfl, _, _, rfl, rfl, ?_⟩
    exact k a0 a1 H3 u' (fun b o e hb => e3 _ _ (s12 _ _ e) hb) (s12.free n3) hl3
/-! ### water taken out, barrels locked -/
def scooped (x : Mo) (i : Nat) (n : Int) : Mo := { x with hs := x.hs.set i (x.hs.getD i 0 - n) }
def turned (x : Mo) (i : Nat) (b : Bool) : Mo := { x with ls := x.ls.set i b }
def spAfterScoop (K : PySem.W.Frag) (CM : Addr) : Sp := fun vs H Q _ => ∃ (m : Addr) (x : Mo) (i : Nat) (n : Int), vs = [.ref m, .int i, .int n] ∧ MoAt K CM H m x ∧ i < x.hs.length ∧ x.hs.length ≤ 1000 ∧ ∀ m' H', Same H H' → H m' = none → MoAt K CM H' m' (scooped x i n) → Q (.ref m') H'
theorem ok_after_scoop {f : Addr} {fd : FuncData} (F : Fun K "after_scoop" "after_scoop" s_after_scoop f fd) (T : Txt K mg CP CR) (TM : Txt_Moment K mg CM) (c_Moment__init : Maker P w K mg base "Moment" CM 2 (spMomInit CM)) : FnOk P w K mg base CX0 4 f fd P_after_scoop (spAfterScoop K CM) := by
  refine F.ok sc_after_scoop (fun vs H Q E h => ?_) (fun cdv A outer s H vs Q E hr h => ?_)
  · obtain ⟨m, x, i, n, rfl, _⟩ := h
    rfl
  · obtain ⟨m, x, i, n, rfl, hm, hi, hlen, k⟩ := h
    obtain ⟨dm, ha, la, m1, m2, m3⟩ := id hm
    refine ⟨_, (pss_cons (ps_set (i := 3) sc_after_scoop.nd rfl (.inl rfl) (pe_callTy call_list_of (by rfl) T.n_list bt_list (pa_cons (pe_fld (pv 0) rfl) pa_nil)))
      (pss_cons (ps_asg (pe_op op_sub (pe_ix ix_list (pv 3) (pv 1) (fun _ _ => rfl)) (pv 2)) (pg_sub (pv 3) (pv 1) set_list))
      (pss_one (ps_ret (pe_makeF c_Moment__init (hr.mono (by decide)) (by rfl) (pa_cons (pe_fld (pv 0) rfl) (pa_cons (pe_callTy call_tuple_of (by rfl) T.n_tuple bt_tuple (pa_cons (pv 3) pa_nil)) (pa_cons (pe_fld (pv 0) rfl) (pa_cons (pe_fld (pv 0) rfl) (pa_cons (pe_fld (pv 0) rfl) pa_nil)))))))))), ?_⟩
    refine ⟨_, rfl, m, CM, dm, _, .ref ha, rfl, m1, TM.cl_Moment, TM.na_Moment_heights, rfl, ha, _, rfl, .inr m2, fun D nD => ?_⟩
    have s1 := same_new (o := .lst (x.hs.map V.int)) nD
    have hix : ((x.hs.map V.int)[i]? : Option V) = some (.int (x.hs.getD i 0)) := by
      rw [List.getElem?_map, List.getElem?_eq_getElem hi, List.getD_eq_getElem?_getD, List.getElem?_eq_getElem hi]
      rfl
    refine ⟨_, rfl, _, rfl, D, _, _, .int (x.hs.getD i 0), rfl, rfl, SqL.of upd_same, at_of (j := i) rfl hix, _, rfl, _, _, rfl, rfl, ?_⟩
    have ixn : ixN (x.hs.map V.int).length ((i : Nat) : Int) = some i := by
      unfold ixN
      rw [if_pos (by omega)]
      simp [hi]
    refine ⟨_, rfl, _, rfl, D, _, _, i, rfl, rfl, upd_same, ixn, ?_⟩
    rw [upd_upd]
    have es : (x.hs.map V.int).set i (.int (x.hs.getD i 0 - n)) = (x.hs.set i (x.hs.getD i 0 - n)).map V.int := by rw [List.map_set]
    rw [es]
    have s2 := same_new (o := .lst ((x.hs.set i (x.hs.getD i 0 - n)).map V.int)) nD
    refine ⟨_, rfl, m, CM, dm, _, _, rfl, s2 _ _ m1, TM.cl_Moment, TM.na_Moment_tick, rfl, _, rfl, D, _, rfl, .inl ⟨SqL.of upd_same, fun ht nht => ?_⟩⟩
    have s3 := s2.trans (same_new (o := .tup ((x.hs.set i (x.hs.getD i 0 - n)).map V.int)) nht)
    refine ⟨_, rfl, m, CM, dm, _, .ref la, rfl, s3 _ _ m1, TM.cl_Moment, TM.na_Moment_locks, rfl, _, rfl, m, CM, dm, _, _, rfl, s3 _ _ m1, TM.cl_Moment, TM.na_Moment_lost, rfl, _, rfl, m, CM, dm, _, _, rfl, s3 _ _ m1, TM.cl_Moment, TM.na_Moment_missed, rfl, fun y dy ny ndy hne => ?_⟩
    have sN := (same_new ndy (o := .own y)).trans (same_new (o := .ins CM dy []) (by rw [upd_ne (Ne.symm hne)]; exact ny))
    refine ⟨y, dy, ht, la, _, _, _, rfl, upd_same, fun H' kp e => ⟨rfl, ?_⟩⟩
    have sH : Same H H' := fun b o e => kp _ _ ((s3.trans sN) _ _ e) (ne_of_none (s3 _ _ e) ny)
    have hht : H' ht = some (.tup ((x.hs.set i (x.hs.getD i 0 - n)).map V.int)) := kp _ _ (sN _ _ upd_same) (ne_of_none upd_same ny)
    exact k y H' sH (s3.free ny) ⟨dy, ht, la, e, .inl (.inl hht), same_t sH m3⟩
def spAfterTurn (K : PySem.W.Frag) (CM : Addr) : Sp := fun vs H Q _ => ∃ (m : Addr) (x : Mo) (i : Nat) (b : Bool), vs = [.ref m, .int i, .bl b] ∧ MoAt K CM H m x ∧ i < x.ls.length ∧ x.ls.length ≤ 1000 ∧ ∀ m' H', Same H H' → H m' = none → MoAt K CM H' m' (turned x i b) → Q (.ref m') H'
theorem ok_after_turn {f : Addr} {fd : FuncData} (F : Fun K "after_turn" "after_turn" s_after_turn f fd) (T : Txt K mg CP CR) (TM : Txt_Moment K mg CM) (c_Moment__init : Maker P w K mg base "Moment" CM 2 (spMomInit CM)) : FnOk P w K mg base CX0 4 f fd P_after_turn (spAfterTurn K CM) := by
  refine F.ok sc_after_turn (fun vs H Q E h => ?_) (fun cdv A outer s H vs Q E hr h => ?_)
  · obtain ⟨m, x, i, n, rfl, _⟩ := h
    rfl
  · obtain ⟨m, x, i, b, rfl, hm, hi, hlen, k⟩ := h
    obtain ⟨dm, ha, la, m1, m2, m3⟩ := id hm
    refine ⟨_, (pss_cons (ps_set (i := 3) sc_after_turn.nd rfl (.inl rfl) (pe_callTy call_list_of (by rfl) T.n_list bt_list (pa_cons (pe_fld (pv 0) rfl) pa_nil)))
      (pss_cons (ps_asg (pv 2) (pg_sub (pv 3) (pv 1) set_list))
      (pss_one (ps_ret (pe_makeF c_Moment__init (hr.mono (by decide)) (by rfl) (pa_cons (pe_fld (pv 0) rfl) (pa_cons (pe_fld (pv 0) rfl) (pa_cons (pe_callTy call_tuple_of (by rfl) T.n_tuple bt_tuple (pa_cons (pv 3) pa_nil)) (pa_cons (pe_fld (pv 0) rfl) (pa_cons (pe_fld (pv 0) rfl) pa_nil)))))))))), ?_⟩
    refine ⟨_, rfl, m, CM, dm, _, .ref la, rfl, m1, TM.cl_Moment, TM.na_Moment_locks, rfl, la, _, rfl, .inr m3, fun D nD => ?_⟩
    have ixn : ixN (x.ls.map V.bl).length ((i : Nat) : Int) = some i := by
      unfold ixN
      rw [if_pos (by omega)]
      simp [hi]
    refine ⟨_, rfl, _, rfl, _, rfl, D, _, _, i, rfl, rfl, upd_same, ixn, ?_⟩
    rw [upd_upd]
    have es : (x.ls.map V.bl).set i (.bl b) = (x.ls.set i b).map V.bl := by rw [List.map_set]
    rw [es]
    have s2 := same_new (o := .lst ((x.ls.set i b).map V.bl)) nD
    refine ⟨_, rfl, m, CM, dm, _, _, rfl, s2 _ _ m1, TM.cl_Moment, TM.na_Moment_tick, rfl, _, rfl, m, CM, dm, _, .ref ha, rfl, s2 _ _ m1, TM.cl_Moment, TM.na_Moment_heights, rfl, _, rfl, D, _, rfl, .inl ⟨SqL.of upd_same, fun ht nht => ?_⟩⟩
    have s3 := s2.trans (same_new (o := .tup ((x.ls.set i b).map V.bl)) nht)
    refine ⟨_, rfl, m, CM, dm, _, _, rfl, s3 _ _ m1, TM.cl_Moment, TM.na_Moment_lost, rfl, _, rfl, m, CM, dm, _, _, rfl, s3 _ _ m1, TM.cl_Moment, TM.na_Moment_missed, rfl, fun y dy ny ndy hne => ?_⟩
    have sN := (same_new ndy (o := .own y)).trans (same_new (o := .ins CM dy []) (by rw [upd_ne (Ne.symm hne)]; exact ny))
    refine ⟨y, dy, ha, ht, _, _, _, rfl, upd_same, fun H' kp e => ⟨rfl, ?_⟩⟩
    have sH : Same H H' := fun b o e => kp _ _ ((s3.trans sN) _ _ e) (ne_of_none (s3 _ _ e) ny)
    have hht : H' ht = some (.tup ((x.ls.set i b).map V.bl)) := kp _ _ (sN _ _ upd_same) (ne_of_none upd_same ny)
    exact k y H' sH (s3.free ny) ⟨dy, ha, ht, e, same_t sH m2, .inl (.inl hht)⟩
end
end Bk
set_option Elab.async false
set_option maxRecDepth 100000
set_option maxHeartbeats 2000000
namespace Bk
open PySem PySem.Spec PyProof.Rows L2 LamX
section
variable {P : Program} {w : World} {K : PySem.W.Frag} {mg : Str → Option Value} {base : Heap} {CP CR CM CV CN CU : Addr}
theorem sub2 {a d u : Addr} : ∀ b ∈ [a, d], b ∈ [a, d, u] := fun b hb => by
  simp only [List.mem_cons, List.not_mem_nil, or_false] at hb ⊢
  rcases hb with rfl | rfl <;> simp
def takenOf (x : Mo) (i : Nat) (n : Int) : Int := if x.hs.getD i 0 < n then x.hs.getD i 0 else n
def spScoopG (K : PySem.W.Frag) (CR CM CV CN CU : Addr) : Sp := fun vs H Q E => ∃ (a d u : Addr) (rain : List Int) (bs : List Bar) (x : Mo) (dn un : List (List V × Mo)) (z : Str) (n : Int), vs = [.ref a, .str z, .int n] ∧ LiAt K CR CM CV H a d u rain bs x dn un ∧ (bs.map Bar.name).Nodup ∧ bs.length ≤ 1000 ∧ (reprText z).length ≤ 1000 ∧ MoOk bs x ∧ dn.length ≤ 1000 ∧
  (∀ i b, bs[i]? = some b → b.name = z → 1 ≤ n → n ≤ 1000000000 → ∀ H' u', KeepL [a, d] H H' → H u' = none → LiAt K CR CM CV H' a d u' rain bs (scooped x i (takenOf x i n)) (dn ++ [([.str "scoop", .str z, .int n], x)]) [] → Q (.int (takenOf x i n)) H') ∧
  (z ∉ bs.map Bar.name → ∀ dd H', Same H H' → H dd = none → H' dd = some (.xd [("name", .str z)]) → E (.ref CU) (some dd) H') ∧ (z ∈ bs.map Bar.name → ¬ (1 ≤ n ∧ n ≤ 1000000000) → ∀ H', Same H H' → E (.ref CN) none H')
theorem ok_scoopG {f : Addr} {fd : FuncData} (F : Fun K "scoop" "LiveRow.scoop" s_LiveRow_scoop f fd) (T : Txt K mg CP CR) (TM : Txt_Moment K mg CM) (TV : Txt_LiveRow K mg CV) (hR : CR ≠ CV) (hM : CM ≠ CV) (x_check_number : CalleeX P w K mg base "check_number" 2 (spCheckNumX CN)) (x_place_of : CalleeX P w K mg base "place_of" 4 (spPlaceOfX K CR CU)) (c_LiveRow_go_on : CalleeM P w K mg base CV "_go_on" 1 (spGoG K CR CM CV))
    (c_after_scoop : Callee P w K mg base "after_scoop" 4 (spAfterScoop K CM)) : FnOk P w K mg base (L2.CX P w) 6 f fd P_LiveRow_scoop (spScoopG K CR CM CV CN CU) := by
  refine F.okX sc_LiveRow_scoop (fun vs H Q E h => ?_) (fun cdv A outer s H vs Q E hr h => ?_)
  · obtain ⟨a, d, u, rain, bs, x, dn, un, z, n, rfl, _⟩ := h
    rfl
  · obtain ⟨a, d, u, rain, bs, x, dn, un, z, n, rfl, hli, hnd, hcn, hz, mok, hl, k, kU, kN⟩ := h
    have tk : Takes (cxOf (L2.CX P w) P w K mg base N_LiveRow_scoop "LiveRow.scoop" (defScope s_LiveRow_scoop) f cdv A outer s H E) (fun cls d _ H => E cls d H) := takes_of rfl rfl rfl rfl
    obtain ⟨dx, m, rv, h1, hrow, hm, hd, _, hdu⟩ := id hli
    refine ⟨_, (pss_cons (ps_set (i := 3) sc_LiveRow_scoop.nd rfl (.inl rfl) (pe_callFX x_place_of tk (hr.mono (by decide)) (by rfl) (pa_cons (pe_fld (pv 0) rfl) (pa_cons (pv 1) pa_nil))))
      (pss_cons (ps_expr (pe_callFX x_check_number tk (hr.mono (by decide)) (by rfl) (pa_cons (pv 2) (pa_cons pe_int (pa_cons (pe_globI (by rfl) T.g_MAX_SCOOP) pa_nil)))))
      (pss_cons (ps_set (i := 4) sc_LiveRow_scoop.nd rfl (.inl rfl) (pe_callB (call_min2 rfl) (by rfl) T.n_min bt_min (pa_cons (pv 2) (pa_cons (pe_ix ix_tup (pe_fld (pe_fld (pv 0) rfl) rfl) (pv 3) (fun _ _ => rfl)) pa_nil))))
      (pss_cons (ps_expr (pe_methF c_LiveRow_go_on (hr.mono (by decide)) (pv 0) (pa_cons (pe_tup (pa_cons pe_str (pa_cons (pv 1) (pa_cons (pv 2) pa_nil)))) (pa_cons (pe_callF c_after_scoop (hr.mono (by decide)) (by rfl) (pa_cons (pe_fld (pv 0) rfl) (pa_cons (pv 3) (pa_cons (pv 4) pa_nil)))) pa_nil))))
      (pss_one (ps_ret (pv 4))))))), ?_⟩
    refine ⟨_, rfl, a, CV, dx, _, rv, rfl, h1, TV.cl_LiveRow, TV.na_LiveRow_row, rfl, _, rfl, rv, rain, bs, z, rfl, hrow, hnd, hcn, hz, fun i b H1 hb hbz s1 => ?_, fun hno dd H' s n0 e => kU hno dd H' s n0 e⟩
    have hmem : z ∈ bs.map Bar.name := List.mem_map.mpr ⟨b, List.mem_of_getElem? hb, hbz⟩
    have hib : i < bs.length := (List.getElem?_eq_some_iff.mp hb).1
    refine ⟨_, rfl, n, 1, 1000000000, rfl, by decide +kernel, by decide +kernel, fun n1 n2 => ?_, fun hn => kN hmem hn H1 s1⟩
    have hli1 := hli.mono s1
    obtain ⟨dm, ha, la, m1, m2, m3⟩ := hm.mono s1
    have hix : ((x.hs.map V.int)[i]? : Option V) = some (.int (x.hs.getD i 0)) := by
      have : i < x.hs.length := by rw [mok.hl]; exact hib
      rw [List.getElem?_map, List.getElem?_eq_getElem this, List.getD_eq_getElem?_getD, List.getElem?_eq_getElem this]
      rfl
    refine ⟨_, rfl, _, rfl, a, CV, dx, _, .ref m, rfl, s1 _ _ h1, TV.cl_LiveRow, TV.na_LiveRow_moment, rfl, m, CM, dm, _, .ref ha, rfl, m1, TM.cl_Moment, TM.na_Moment_heights, rfl, _, rfl, ha, _, _, .int (x.hs.getD i 0), rfl, rfl, m2, at_of (j := i) rfl hix, _, _, rfl, ?_⟩
    show tSeq _ _ _ _ _
    have et : (if x.hs.getD i 0 < n then x.hs.getD i 0 else n) = takenOf x i n := rfl
    rw [et]
    refine ⟨_, rfl, a, dx, _, rfl, s1 _ _ h1, rfl, _, rfl, _, rfl, by show 3 ≤ sizeLine; decide, fun op nop => ?_⟩
    have s2 := same_new (o := .tup [V.str "scoop", V.str z, V.int n]) nop
    refine ⟨_, rfl, a, CV, dx, _, .ref m, rfl, s2 _ _ (s1 _ _ h1), TV.cl_LiveRow, TV.na_LiveRow_moment, rfl, _, rfl, _, rfl, m, x, i, takenOf x i n, rfl, (hm.mono s1).mono s2, by rw [mok.hl]; exact hib, by rw [mok.hl]; exact hcn, fun m' H3 s3 nm' hm' => ?_⟩
    have s13 := s1.trans (s2.trans s3)
    refine ⟨a, d, u, op, m', rain, bs, x, _, dn, un, _, rfl, hli1.mono (s2.trans s3), s3 _ _ upd_same, hm', hl, fun H4 u' e4 n4 hl4 _ => ⟨_, rfl, ?_⟩⟩
    exact k i b hb hbz n1 n2 H4 u' (fun c o e hb => e4 _ _ (s13 _ _ e) hb) (s13.free n4) hl4
def spTurnG (K : PySem.W.Frag) (CR CM CV CU : Addr) (word : Str) (bb : Bool) : List V → Addr → Str → Hp → VK → XK → Prop := fun vs a z H Q E => ∃ (d u : Addr) (rain : List Int) (bs : List Bar) (x : Mo) (dn un : List (List V × Mo)), LiAt K CR CM CV H a d u rain bs x dn un ∧ (bs.map Bar.name).Nodup ∧ bs.length ≤ 1000 ∧ (reprText z).length ≤ 1000 ∧ MoOk bs x ∧ dn.length ≤ 1000 ∧
  (∀ i b, bs[i]? = some b → b.name = z → ∀ H' u', KeepL [a, d] H H' → H u' = none → LiAt K CR CM CV H' a d u' rain bs (turned x i bb) (dn ++ [([.str word, .str z], x)]) [] → Q (.bl (x.ls.getD i false != bb)) H') ∧
  (z ∉ bs.map Bar.name → ∀ dd H', Same H H' → H dd = none → H' dd = some (.xd [("name", .str z)]) → E (.ref CU) (some dd) H')
def spTurn (K : PySem.W.Frag) (CR CM CV CU : Addr) : Sp := fun vs H Q E => ∃ (a op : Addr) (z word : Str) (bb : Bool), vs = [.ref a, .ref op, .bl bb] ∧ H op = some (.tup [.str word, .str z]) ∧ spTurnG K CR CM CV CU word bb vs a z H Q E
theorem ok_turnG {f : Addr} {fd : FuncData} (F : Fun K "_turn" "LiveRow._turn" s_LiveRow_turn f fd) (T : Txt K mg CP CR) (TM : Txt_Moment K mg CM) (TV : Txt_LiveRow K mg CV) (hR : CR ≠ CV) (hM : CM ≠ CV) (x_place_of : CalleeX P w K mg base "place_of" 4 (spPlaceOfX K CR CU)) (c_LiveRow_go_on : CalleeM P w K mg base CV "_go_on" 1 (spGoG K CR CM CV))
    (c_after_turn : Callee P w K mg base "after_turn" 4 (spAfterTurn K CM)) : FnOk P w K mg base (L2.CX P w) 6 f fd P_LiveRow_turn (spTurn K CR CM CV CU) := by
  refine F.okX sc_LiveRow_turn (fun vs H Q E h => ?_) (fun cdv A outer s H vs Q E hr h => ?_)
  · obtain ⟨a, op, z, word, bb, rfl, _⟩ := h
    rfl
  · obtain ⟨a, op, z, word, bb, rfl, hop, d, u, rain, bs, x, dn, un, hli, hnd, hcn, hz, mok, hl, k, kU⟩ := h
    have tk : Takes (cxOf (L2.CX P w) P w K mg base N_LiveRow_turn "LiveRow._turn" (defScope s_LiveRow_turn) f cdv A outer s H E) (fun cls d _ H => E cls d H) := takes_of rfl rfl rfl rfl
    obtain ⟨dx, m, rv, h1, hrow, hm, hd, _, hdu⟩ := id hli
    refine ⟨_, (pss_cons (ps_set (i := 3) sc_LiveRow_turn.nd rfl (.inl rfl) (pe_callFX x_place_of tk (hr.mono (by decide)) (by rfl) (pa_cons (pe_fld (pv 0) rfl) (pa_cons (pe_ix ix_tup (pv 1) pe_int (fun _ _ => rfl)) pa_nil))))
      (pss_cons (ps_set (i := 4) sc_LiveRow_turn.nd rfl (.inl rfl) (pe_fld (pv 0) rfl))
      (pss_cons (ps_expr (pe_methF c_LiveRow_go_on (hr.mono (by decide)) (pv 0) (pa_cons (pv 1) (pa_cons (pe_callF c_after_turn (hr.mono (by decide)) (by rfl) (pa_cons (pv 4) (pa_cons (pv 3) (pa_cons (pv 2) pa_nil)))) pa_nil))))
      (pss_one (ps_ret (pe_cmpR op_ne (pe_ix ix_tup (pe_fld (pv 4) rfl) (pv 3) (fun _ _ => rfl)) (pv 2) (nomark _))))))), ?_⟩
    refine ⟨_, rfl, a, CV, dx, _, rv, rfl, h1, TV.cl_LiveRow, TV.na_LiveRow_row, rfl, _, rfl, op, _, _, _, rfl, rfl, .inl (.inl hop), rfl, rv, rain, bs, z, rfl, hrow, hnd, hcn, hz, fun i b H1 hb hbz s1 => ?_, fun hno dd H' s n0 e => kU hno dd H' s n0 e⟩
    have hib : i < bs.length := (List.getElem?_eq_some_iff.mp hb).1
    have hli1 := hli.mono s1
    refine ⟨_, rfl, a, CV, dx, _, .ref m, rfl, s1 _ _ h1, TV.cl_LiveRow, TV.na_LiveRow_moment, rfl, ?_⟩
    refine ⟨_, rfl, a, dx, _, rfl, s1 _ _ h1, rfl, _, rfl, _, rfl, _, rfl, _, rfl, m, x, i, bb, rfl, hm.mono s1, by rw [mok.kl]; exact hib, by rw [mok.kl]; exact hcn, fun m' H3 s3 nm' hm' => ?_⟩
    have s13 := s1.trans s3
    refine ⟨a, d, u, op, m', rain, bs, x, _, dn, un, _, rfl, hli1.mono s3, s13 _ _ hop, hm', hl, fun H4 u' e4 n4 hl4 _ => ?_⟩
    have mv3 : MvL CV H3 [a, d] := (hli1.mono s3).mv.sub sub2
    obtain ⟨dm, ha, la, m1, m2, m3⟩ := kl_mo e4 mv3 hM (hm.mono s13)
    have hix : ((x.ls.map V.bl)[i]? : Option V) = some (.bl (x.ls.getD i false)) := by
      have : i < x.ls.length := by rw [mok.kl]; exact hib
      rw [List.getElem?_map, List.getElem?_eq_getElem this, List.getD_eq_getElem?_getD, List.getElem?_eq_getElem this]
      rfl
    refine ⟨_, rfl, m, CM, dm, _, .ref la, rfl, m1, TM.cl_Moment, TM.na_Moment_locks, rfl, _, rfl, la, _, _, .bl (x.ls.getD i false), rfl, rfl, m3, at_of (j := i) rfl hix, _, rfl, rfl, ?_⟩
    have eb : (!decide (V.bl (x.ls.getD i false) = V.bl bb)) = (x.ls.getD i false != bb) := by
      rw [dec_bl]
      rfl
    rw [eb]
    exact k i b hb hbz H4 u' (fun c o e hb => e4 _ _ (s13 _ _ e) hb) (s13.free n4) hl4
def spLock (K : PySem.W.Frag) (CR CM CV CU : Addr) (word : Str) (bb : Bool) : Sp := fun vs H Q E => ∃ (a : Addr) (z : Str), vs = [.ref a, .str z] ∧ spTurnG K CR CM CV CU word bb vs a z H Q E
theorem turn_mono {H H' : Hp} {a : Addr} {z word : Str} {bb : Bool} {vs vs' : List V} {Q : VK} {E : XK} (s : Same H H') (h : spTurnG K CR CM CV CU word bb vs a z H Q E) : spTurnG K CR CM CV CU word bb vs' a z H' Q E := by
  obtain ⟨d, u, rain, bs, x, dn, un, h1, h2, h3, h4, h5, h6, k, kx⟩ := h
  exact ⟨d, u, rain, bs, x, dn, un, h1.mono s, h2, h3, h4, h5, h6, fun i b hb hz H2 u' e n l => k i b hb hz H2 u' (fun c o e' hb => e _ _ (s _ _ e') hb) (s.free n) l, fun hn dd H2 s2 n e => kx hn dd H2 (s.trans s2) (s.free n) e⟩
theorem ok_lockG {f : Addr} {fd : FuncData} (F : Fun K "lock" "LiveRow.lock" s_LiveRow_lock f fd) (T : Txt K mg CP CR) (x_LiveRow_turn : CalleeMX P w K mg base CV "_turn" 6 (spTurn K CR CM CV CU)) : FnOk P w K mg base (L2.CX P w) 7 f fd P_LiveRow_lock (spLock K CR CM CV CU "lock" true) := by
  refine F.okX sc_LiveRow_lock (fun vs H Q E h => ?_) (fun cdv A outer s H vs Q E hr h => ?_)
  · obtain ⟨a, z, rfl, _⟩ := h
    rfl
  · obtain ⟨a, z, rfl, hs⟩ := h
    have tk : Takes (cxOf (L2.CX P w) P w K mg base N_LiveRow_lock "LiveRow.lock" (defScope s_LiveRow_lock) f cdv A outer s H E) (fun cls d _ H => E cls d H) := takes_of rfl rfl rfl rfl
    obtain ⟨d, u, rain, bs, x, dn, un, hli, _⟩ := id hs
    obtain ⟨dx, m, rv, h1, _⟩ := hli
    refine ⟨_, (pss_one (ps_ret (pe_methFX x_LiveRow_turn tk (hr.mono (by decide)) (pv 0) (pa_cons (pe_tup (pa_cons pe_str (pa_cons (pv 1) pa_nil))) (pa_cons pe_bl pa_nil))))), ?_⟩
    refine ⟨_, rfl, a, dx, _, rfl, h1, rfl, _, rfl, by show 2 ≤ sizeLine; decide, fun op nop => ?_⟩
    exact ⟨a, op, z, "lock", true, rfl, upd_same, turn_mono (same_new nop) hs⟩
theorem ok_unlockG {f : Addr} {fd : FuncData} (F : Fun K "unlock" "LiveRow.unlock" s_LiveRow_unlock f fd) (T : Txt K mg CP CR) (x_LiveRow_turn : CalleeMX P w K mg base CV "_turn" 6 (spTurn K CR CM CV CU)) : FnOk P w K mg base (L2.CX P w) 7 f fd P_LiveRow_unlock (spLock K CR CM CV CU "unlock" false) := by
  refine F.okX sc_LiveRow_unlock (fun vs H Q E h => ?_) (fun cdv A outer s H vs Q E hr h => ?_)
  · obtain ⟨a, z, rfl, _⟩ := h
    rfl
  · obtain ⟨a, z, rfl, hs⟩ := h
    have tk : Takes (cxOf (L2.CX P w) P w K mg base N_LiveRow_unlock "LiveRow.unlock" (defScope s_LiveRow_unlock) f cdv A outer s H E) (fun cls d _ H => E cls d H) := takes_of rfl rfl rfl rfl
    obtain ⟨d, u, rain, bs, x, dn, un, hli, _⟩ := id hs
    obtain ⟨dx, m, rv, h1, _⟩ := hli
    refine ⟨_, (pss_one (ps_ret (pe_methFX x_LiveRow_turn tk (hr.mono (by decide)) (pv 0) (pa_cons (pe_tup (pa_cons pe_str (pa_cons (pv 1) pa_nil))) (pa_cons pe_bl pa_nil))))), ?_⟩
    refine ⟨_, rfl, a, dx, _, rfl, h1, rfl, _, rfl, by show 2 ≤ sizeLine; decide, fun op nop => ?_⟩
    exact ⟨a, op, z, "unlock", false, rfl, upd_same, turn_mono (same_new nop) hs⟩
end
end Bk
set_option Elab.async false
set_option maxRecDepth 100000
set_option maxHeartbeats 2000000
namespace Bk
open PySem PySem.Spec PyProof.Rows L2 LamX
theorem repA {K : PySem.W.Frag} {H : Hp} {l : Addr} {x : V} {k : Int} {Q : VK} (h : SqT K H l [x]) (h1 : 1 ≤ k) (h2 : k ≤ 3000) (q : ∀ p H', Same H H' → SqT K H' p (List.replicate k.toNat x) → Q (.ref p) H') : rRepW K (.ref l) (.int k) H Q :=
  ⟨l, k, [x], rfl, rfl, h, by simp, h1, h2, by show 1 ≤ 1000; decide, fun e => q l H (Same.refl _) (by subst e; exact h), fun p np => q p _ (same_new np) (by
    have : (List.replicate k.toNat [x]).flatten = List.replicate k.toNat x := by simp
    rw [this]; exact .inl (.inl upd_same))⟩
def mo0 (n : Nat) : Mo := ⟨0, List.replicate n 0, List.replicate n false, 0, 0⟩
theorem mo0_ok (bs : List Bar) : MoOk bs (mo0 bs.length) := ⟨List.length_replicate, List.length_replicate, fun h hm => by rw [List.eq_of_mem_replicate hm]; exact Int.le_refl 0⟩
section
variable {P : Program} {w : World} {K : PySem.W.Frag} {mg : Str → Option Value} {base : Heap} {CP CR CM CV CN CU : Addr}
theorem RowAt.kpV {H H' : Hp} {a dx : Addr} {fs : List (Str × V)} {v : V} {rain : List Int} {bs : List Bar} (e : Kp a H H') (ha : H a = some (.ins CV dx fs)) (hC : CR ≠ CV) (h : RowAt K CR H v rain bs) : RowAt K CR H' v rain bs :=
  kl_row (L := [a]) (fun b o q n => e b o q fun z => n (by rw [z]; exact List.mem_cons_self)) (fun b hb => by rw [List.mem_singleton.mp hb]; exact .inr (.inl ⟨_, _, ha⟩)) hC h
def spLiveInitG (K : PySem.W.Frag) (CR CM CV : Addr) : Sp := fun vs H Q _ => ∃ (a dx : Addr) (v : V) (rain : List Int) (bs : List Bar), vs = [.ref a, v] ∧ H a = some (.ins CV dx []) ∧ RowAt K CR H v rain bs ∧ RowOk rain bs ∧ 1 ≤ bs.length ∧ ∀ H' d u, Kp a H H' → H d = none → H u = none → LiAt K CR CM CV H' a d u rain bs (mo0 bs.length) [] [] → Q .non H'
theorem ok_live_initG {f : Addr} {fd : FuncData} (F : Fun K "__init__" "LiveRow.__init__" s_LiveRow_init f fd) (T : Txt K mg CP CR) (TM : Txt_Moment K mg CM) (TV : Txt_LiveRow K mg CV) (nRV : CR ≠ CV) (nMV : CM ≠ CV) (c_Moment__init : Maker P w K mg base "Moment" CM 2 (spMomInit CM)) (c_Row__len : CalleeO P w K mg base CR "__len__" 1 (spRowLen K CR)) :
    FnOk P w K mg base CX0 4 f fd P_LiveRow_init (spLiveInitG K CR CM CV) := by
  refine F.ok sc_LiveRow_init (fun vs H Q E h => ?_) (fun cdv A outer s H vs Q E hr h => ?_)
  · obtain ⟨a, dx, v, rain, bs, rfl, _⟩ := h
    rfl
  · obtain ⟨a, dx, v, rain, bs, rfl, h0, hrow, ok, hb1, k⟩ := h
    have hcn := ok.cnt
    refine ⟨_, (pss_cons (ps_fld (pv 0) (pv 1) rfl)
      (pss_cons (ps_fld (pv 0) (pe_makeF c_Moment__init (hr.mono (by decide)) (by rfl) (pa_cons pe_int (pa_cons (pe_op op_repW (pe_tup (pa_cons pe_int pa_nil)) (pe_callB (call_lenOwn c_Row__len (hr.mono (by decide))) (by rfl) T.n_len bt_len (pa_cons (pv 1) pa_nil))) (pa_cons (pe_op op_repW (pe_tup (pa_cons pe_bl pa_nil)) (pe_callB (call_lenOwn c_Row__len (hr.mono (by decide))) (by rfl) T.n_len bt_len (pa_cons (pv 1) pa_nil))) (pa_cons pe_int (pa_cons pe_int pa_nil)))))) rfl)
      (pss_cons (ps_fld (pv 0) (pe_lst pa_nil) rfl)
      (pss_one (ps_fld (pv 0) (pe_lst pa_nil) rfl))))), ?_⟩
    refine ⟨_, rfl, _, rfl, a, CV, dx, _, rfl, h0, TV.cl_LiveRow, TV.na_LiveRow_row, by show 0 < 1000; decide, ?_⟩
    have k1 : Kp a H (upd H a (.ins CV dx (putF "_row" v []))) := Kp.upd fun b o q _ => q
    have hrow1 := hrow.kpV k1 h0 nRV
    have ha1 : (upd H a (.ins CV dx (putF "_row" v []))) a = some (.ins CV dx [("_row", v)]) := upd_same
    generalize upd H a (.ins CV dx (putF "_row" v [])) = H1 at k1 hrow1 ha1
    obtain ⟨r, dr, _, _, rfl, g1, _⟩ := id hrow1
    refine ⟨by show 1 ≤ sizeLine; decide, fun q nq => ?_⟩
    have s1 := same_new (o := .tup [V.int 0]) nq
    refine ⟨_, rfl, r, dr, _, rfl, s1 _ _ g1, .ref r, rain, bs, rfl, hrow1.mono s1, bs.length, rfl, by omega, repA (.inl (.inl upd_same)) (by omega) (by omega) fun ha H2 s2 hha => ?_⟩
    refine ⟨by show 1 ≤ sizeLine; decide, fun q2 nq2 => ?_⟩
    have s3 := same_new (o := .tup [V.bl false]) nq2
    have s13 := (s1.trans s2).trans s3
    refine ⟨_, rfl, r, dr, _, rfl, s13 _ _ g1, .ref r, rain, bs, rfl, hrow1.mono s13, bs.length, rfl, by omega, repA (.inl (.inl upd_same)) (by omega) (by omega) fun la H4 s4 hla => ?_⟩
    have s14 := s13.trans s4
    rw [Int.toNat_natCast] at hha hla
    refine fun x dx' nx ndx hne => ?_
    have sN := (same_new ndx (o := .own x)).trans (same_new (o := .ins CM dx' []) (by rw [upd_ne (Ne.symm hne)]; exact nx))
    refine ⟨x, dx', ha, la, 0, 0, 0, rfl, upd_same, fun H5 kp e5 => ⟨rfl, ?_⟩⟩
    have s45 : Same H4 H5 := fun b o e => kp _ _ (sN _ _ e) (ne_of_none e nx)
    have s15 := s14.trans s45
    refine ⟨_, rfl, a, CV, dx, _, rfl, s15 _ _ ha1, TV.cl_LiveRow, TV.na_LiveRow_moment, by show 1 < 1000; decide, ?_⟩
    have a5 := s15 _ _ ha1
    have nxa : x ≠ a := fun z => by rw [z, s14 _ _ ha1] at nx; cases nx
    refine ⟨by decide, fun d nd => ?_⟩
    have nda : d ≠ a := fun z => by rw [z, upd_same] at nd; cases nd
    have nd5 : H5 d = none := by rw [upd_ne nda] at nd; exact nd
    have s6 := same_new (o := .lst []) nd
    refine ⟨_, rfl, a, CV, dx, _, rfl, s6 _ _ upd_same, TV.cl_LiveRow, TV.na_LiveRow_done, by show 2 < 1000; decide, ?_⟩
    refine ⟨by decide, fun u nu => ?_⟩
    have nua : u ≠ a := fun z => by rw [z, upd_same] at nu; cases nu
    have hd7 : (upd (upd (upd H5 a (.ins CV dx (putF "_moment" (V.ref x) [("_row", V.ref r)]))) d (.lst [])) a (.ins CV dx (putF "_done" (V.ref d) (putF "_moment" (V.ref x) [("_row", V.ref r)])))) d = some (.lst []) := by rw [upd_ne nda]; exact upd_same
    have ndu : d ≠ u := ne_of_none hd7 nu
    have nu5 : H5 u = none := by rw [upd_ne nua, upd_ne ndu.symm, upd_ne nua] at nu; exact nu
    have s8 := same_new (o := .lst []) nu
    refine ⟨_, rfl, a, CV, dx, _, rfl, s8 _ _ upd_same, TV.cl_LiveRow, TV.na_LiveRow_undone, by show 3 < 1000; decide, ?_⟩
    have kpF : Kp a H5 _ := Kp.upd (o := .ins CV dx (liF (.ref r) x d u)) (Kp.new (o := .lst []) (Kp.upd (o := .ins CV dx (putF "_done" (V.ref d) (putF "_moment" (V.ref x) [("_row", V.ref r)]))) (Kp.new (o := .lst []) (Kp.upd (o := .ins CV dx (putF "_moment" (V.ref x) [("_row", V.ref r)])) (fun b o q _ => q : Kp a H5 H5)) nd)) nu)
    have k15 : Kp a H1 H5 := fun b o q _ => s15 _ _ q
    have kpA : Kp a H _ := fun b o q n => kpF b o (k15 b o (k1 b o q n) n) n
    have frs : ∀ {b : Addr}, b ≠ a → H5 b = none → H b = none := fun {b} nb e => by
      cases q : H b with
      | none => rfl
      | some o =>
        have := s15 _ _ (k1 _ _ q nb)
        rw [e] at this
        cases this
    refine k _ d u kpA (frs nda nd5) (frs nua nu5) ⟨dx, x, .ref r, upd_same, hrow1.kpV (fun b o q n => kpF b o (k15 b o q n) n) ha1 nRV, ⟨dx', ha, la, ?_, ?_, ?_⟩, ⟨[], by rw [upd_ne nda, upd_ne ndu]; exact hd7, rfl, fun i v p h => by simp at h⟩, ⟨[], by rw [upd_ne nua]; exact upd_same, rfl, fun i v p h => by simp at h⟩, ndu⟩
    · exact kpF _ _ e5 nxa
    · show SqT K _ ha ((List.replicate bs.length (0 : Int)).map V.int)
      rw [List.map_replicate]
      exact kpF.tup a5 (same_t ((s3.trans s4).trans s45) hha)
    · show SqT K _ la ((List.replicate bs.length false).map V.bl)
      rw [List.map_replicate]
      exact kpF.tup a5 (same_t s45 hla)
/-! ### the properties -/
def spNowG (K : PySem.W.Frag) (CR CM CV : Addr) (g : Mo → Int) : Sp := fun vs H Q _ => ∃ (a d u : Addr) (rain : List Int) (bs : List Bar) (x : Mo) (dn un : List (List V × Mo)), vs = [.ref a] ∧ LiAt K CR CM CV H a d u rain bs x dn un ∧ Q (.int (g x)) H
theorem ok_nowG {f : Addr} {fd : FuncData} (F : Fun K "now" "LiveRow.now" s_LiveRow_now f fd) (T : Txt K mg CP CR) (TM : Txt_Moment K mg CM) (TV : Txt_LiveRow K mg CV) : FnOk P w K mg base CX0 1 f fd P_LiveRow_now (spNowG K CR CM CV fun x => (x.t : Nat)) := by
  refine F.ok sc_LiveRow_now (fun vs H Q E h => ?_) (fun cdv A outer s H vs Q E hr h => ?_)
  · obtain ⟨a, d, u, rain, bs, x, dn, un, rfl, _⟩ := h
    rfl
  · obtain ⟨a, d, u, rain, bs, x, dn, un, rfl, ⟨dx, m, rv, h1, h2, ⟨dm, hh, la, g1, _⟩, _⟩, k⟩ := h
    refine ⟨_, (pss_one (ps_ret (pe_fld (pe_fld (pv 0) rfl) rfl))), ?_⟩
    exact ⟨_, rfl, a, CV, dx, _, .ref m, rfl, h1, TV.cl_LiveRow, TV.na_LiveRow_moment, rfl, m, CM, dm, _, _, rfl, g1, TM.cl_Moment, TM.na_Moment_tick, rfl, k⟩
theorem ok_lostwG {f : Addr} {fd : FuncData} (F : Fun K "lost_water" "LiveRow.lost_water" s_LiveRow_lost_water f fd) (T : Txt K mg CP CR) (TM : Txt_Moment K mg CM) (TV : Txt_LiveRow K mg CV) : FnOk P w K mg base CX0 1 f fd P_LiveRow_lost_water (spNowG K CR CM CV Mo.lo) := by
  refine F.ok sc_LiveRow_lost_water (fun vs H Q E h => ?_) (fun cdv A outer s H vs Q E hr h => ?_)
  · obtain ⟨a, d, u, rain, bs, x, dn, un, rfl, _⟩ := h
    rfl
  · obtain ⟨a, d, u, rain, bs, x, dn, un, rfl, ⟨dx, m, rv, h1, h2, ⟨dm, hh, la, g1, _⟩, _⟩, k⟩ := h
    refine ⟨_, (pss_one (ps_ret (pe_fld (pe_fld (pv 0) rfl) rfl))), ?_⟩
    exact ⟨_, rfl, a, CV, dx, _, .ref m, rfl, h1, TV.cl_LiveRow, TV.na_LiveRow_moment, rfl, m, CM, dm, _, _, rfl, g1, TM.cl_Moment, TM.na_Moment_lost, rfl, k⟩
theorem ok_misswG {f : Addr} {fd : FuncData} (F : Fun K "missed_water" "LiveRow.missed_water" s_LiveRow_missed_water f fd) (T : Txt K mg CP CR) (TM : Txt_Moment K mg CM) (TV : Txt_LiveRow K mg CV) : FnOk P w K mg base CX0 1 f fd P_LiveRow_missed_water (spNowG K CR CM CV Mo.mi) := by
  refine F.ok sc_LiveRow_missed_water (fun vs H Q E h => ?_) (fun cdv A outer s H vs Q E hr h => ?_)
  · obtain ⟨a, d, u, rain, bs, x, dn, un, rfl, _⟩ := h
    rfl
  · obtain ⟨a, d, u, rain, bs, x, dn, un, rfl, ⟨dx, m, rv, h1, h2, ⟨dm, hh, la, g1, _⟩, _⟩, k⟩ := h
    refine ⟨_, (pss_one (ps_ret (pe_fld (pe_fld (pv 0) rfl) rfl))), ?_⟩
    exact ⟨_, rfl, a, CV, dx, _, .ref m, rfl, h1, TV.cl_LiveRow, TV.na_LiveRow_moment, rfl, m, CM, dm, _, _, rfl, g1, TM.cl_Moment, TM.na_Moment_missed, rfl, k⟩
/-- names and levels, in order -/
def lvKvs (bs : List Bar) (hs : List Int) : List (Key × V) := (List.range bs.length).map fun i => (.inr (bs.getD i dB).name, .int (hs.getD i 0))
def spLevelsG (K : PySem.W.Frag) (CR CM CV : Addr) : Sp := fun vs H Q _ => ∃ (a d u : Addr) (rain : List Int) (bs : List Bar) (x : Mo) (dn un : List (List V × Mo)), vs = [.ref a] ∧ LiAt K CR CM CV H a d u rain bs x dn un ∧ RowOk rain bs ∧ (bs.map Bar.name).Nodup ∧ MoOk bs x ∧ ∀ D H', Same H H' → H D = none → H' D = some (.dK (lvKvs bs x.hs)) → Q (.ref D) H'
theorem ok_levelsG {f : Addr} {fd : FuncData} (F : Fun K "levels" "LiveRow.levels" s_LiveRow_levels f fd) (T : Txt K mg CP CR) (TM : Txt_Moment K mg CM) (TV : Txt_LiveRow K mg CV) (c_Row_names : CalleeP P w K mg base CR "names" 1 (spRowNames K CR)) : FnOk P w K mg base CX0 3 f fd P_LiveRow_levels (spLevelsG K CR CM CV) := by
  refine F.ok sc_LiveRow_levels (fun vs H Q E h => ?_) (fun cdv A outer s H vs Q E hr h => ?_)
  · obtain ⟨a, d, u, rain, bs, x, dn, un, rfl, _⟩ := h
    rfl
  · obtain ⟨a, d, u, rain, bs, x, dn, un, rfl, ⟨dx, m, rv, h1, hrow, ⟨dm, hh, la, g1, g2, _⟩, _⟩, ok, hnd, mok, k⟩ := h
    obtain ⟨r, dr, _, _, rfl, r1, _⟩ := id hrow
    have hcn := ok.cnt
    refine ⟨_, (pss_one (ps_ret (pe_dc (own := [("name", 1), ("height", 2)]) (g := gTup K 2 (gCons (gName 1) (gCons (gName 2) gNil))) (by rfl) sc_LiveRow_levels.nd (pi_zipM false false (by rfl) T.n_zip (pa_cons (pe_propF c_Row_names (hr.mono (by decide)) (pe_fld (pv 0) rfl) rfl) (pa_cons (pe_fld (pe_fld (pv 0) rfl) rfl) pa_nil))) (blkOk_by (own := [("name", 1), ("height", 2)]) (N := N_LiveRow_levels) (sc := defScope s_LiveRow_levels) (by decide +kernel)) (fun _ _ _ _ _ => (pg_tup rfl (pgs_cons (pg_name (i := 1) sc_LiveRow_levels.nd rfl (.inl rfl)) (pgs_cons (pg_name (i := 2) sc_LiveRow_levels.nd rfl (.inl rfl)) pgs_nil)))) (fun _ _ _ _ _ => pts_nil) (fun _ _ _ _ _ => (pv 1)) (fun _ _ _ _ _ => (pv 2))))), ?_⟩
    refine ⟨_, rfl, a, CV, dx, _, .ref r, rfl, h1, TV.cl_LiveRow, TV.na_LiveRow_row, rfl, r, dr, _, rfl, r1, .ref r, rain, bs, rfl, hrow, by omega, fun np H2 s2 hnp => ?_⟩
    refine ⟨_, rfl, a, CV, dx, _, .ref m, rfl, s2 _ _ h1, TV.cl_LiveRow, TV.na_LiveRow_moment, rfl, m, CM, dm, _, .ref hh, rfl, s2 _ _ g1, TM.cl_Moment, TM.na_Moment_heights, rfl, ?_⟩
    have g22 := same_t s2 g2
    have nlen : (names bs).length = bs.length := by unfold names; simp
    have hmin : min (names bs).length (x.hs.map V.int).length = bs.length := by rw [nlen, List.length_map, mok.hl, Nat.min_self]
    refine ⟨np, hh, _, _, rfl, .inl (.inl hnp), g22, fun D nD => dc_it (walk_zipM rfl) (fun i H' => Same H2 H' ∧ H' D = some (.dK ((List.range i).map fun i => (.inr (bs.getD i dB).name, .int (x.hs.getD i 0))))) ⟨same_new nD, upd_same⟩ (fun i H' _ p => ⟨.inl (.inl (p.1 _ _ hnp)), same_t p.1 g22⟩) ?_ ?_⟩
    · rintro i y H3 H4 hi ⟨s3, d1⟩ ⟨tt, z1, z2, rfl, ntt, rfl, w1, w2⟩
      rw [hmin] at hi
      have hib : bs[i]? = some bs[i] := List.getElem?_eq_getElem hi
      have ed : bs.getD i dB = bs[i] := by rw [List.getD_eq_getElem?_getD, hib]; rfl
      have q1 : z1 = .str bs[i].name := by
        have w1 : (names bs)[i]? = some z1 := w1
        unfold names at w1
        rw [List.getElem?_map, nth_name hib] at w1
        exact (Option.some.inj w1).symm
      have q2 : z2 = .int (x.hs.getD i 0) := by
        have w2 : (x.hs.map V.int)[i]? = some z2 := w2
        have hi' : i < x.hs.length := by rw [mok.hl]; exact hi
        rw [List.getElem?_map, List.getElem?_eq_getElem hi'] at w2
        rw [List.getD_eq_getElem?_getD, List.getElem?_eq_getElem hi']
        exact (Option.some.inj w2).symm
      subst q1
      subst q2
      have s4 := same_new (o := .tup [V.str bs[i].name, .int (x.hs.getD i 0)]) ntt
      refine ⟨tt, _, rfl, .inl (.inl upd_same), rfl, _, _, rfl, _, _, rfl, rfl, rfl, _, rfl, _, rfl, _, .inr bs[i].name, rfl, s4 _ _ d1, by rw [List.length_map, List.length_range]; exact Nat.lt_of_lt_of_le hi (Nat.le_trans hcn (by decide)), ?_⟩
      have hnew : ∀ p ∈ ((List.range i).map fun i => ((.inr (bs.getD i dB).name, .int (x.hs.getD i 0)) : Key × V)), p.1 ≠ Sum.inr bs[i].name := by
        intro p hp e
        obtain ⟨j, hj, rfl⟩ := List.mem_map.mp hp
        have hj := List.mem_range.mp hj
        have hbj : bs[j]? = some bs[j] := List.getElem?_eq_getElem (by omega)
        have edj : bs.getD j dB = bs[j] := by rw [List.getD_eq_getElem?_getD, hbj]; rfl
        have e' : (bs.getD j dB).name = bs[i].name := Sum.inr.inj e
        rw [edj] at e'
        have := nd_ix hnd (nth_name hbj) (by rw [e']; exact nth_name hib)
        omega
      rw [putK_new hnew]
      refine ⟨Same.mut (s3.trans s4) nD, ?_⟩
      rw [List.range_succ, List.map_append, List.map_cons, List.map_nil, ed]
      exact upd_same
    · rintro H3 ⟨s3, d1⟩
      rw [hmin] at d1
      exact k D H3 (s2.trans s3) (s2.free nD) d1
/-- the names of the locked barrels, in order -/
def shutOf (bs : List Bar) (ls : List Bool) (n : Nat) : List Str := ((List.range n).filter fun i => ls.getD i false).map fun i => (bs.getD i dB).name
theorem shutOf_succ (bs : List Bar) (ls : List Bool) (i : Nat) : shutOf bs ls (i + 1) = if ls.getD i false = true then shutOf bs ls i ++ [(bs.getD i dB).name] else shutOf bs ls i := by
  unfold shutOf
  rw [List.range_succ, List.filter_append, List.map_append]
  by_cases h : ls.getD i false = true
  · have e : List.filter (fun i => ls.getD i false) [i] = [i] := List.filter_cons_of_pos (p := fun i => ls.getD i false) h
    rw [if_pos h, e, List.map_cons]
    rfl
  · have e : List.filter (fun i => ls.getD i false) [i] = [] := List.filter_cons_of_neg (p := fun i => ls.getD i false) h
    rw [if_neg h, e]
    simp
theorem shutOf_len (bs : List Bar) (ls : List Bool) (i : Nat) : (shutOf bs ls i).length ≤ i := by
  unfold shutOf
  rw [List.length_map]
  exact Nat.le_trans (List.length_filter_le _ _) (by rw [List.length_range]; exact Nat.le_refl _)
def spShut (K : PySem.W.Frag) (CR CM CV : Addr) : Sp := fun vs H Q _ => ∃ (a d u : Addr) (rain : List Int) (bs : List Bar) (x : Mo) (dn un : List (List V × Mo)), vs = [.ref a] ∧ LiAt K CR CM CV H a d u rain bs x dn un ∧ RowOk rain bs ∧ MoOk bs x ∧ ∀ D H', Same H H' → H D = none → H' D = some (.lst ((shutOf bs x.ls bs.length).map V.str)) → Q (.ref D) H'
theorem ok_shut {f : Addr} {fd : FuncData} (F : Fun K "locked_names" "LiveRow.locked_names" s_LiveRow_locked_names f fd) (T : Txt K mg CP CR) (TM : Txt_Moment K mg CM) (TV : Txt_LiveRow K mg CV) (c_Row_names : CalleeP P w K mg base CR "names" 1 (spRowNames K CR)) : FnOk P w K mg base CX0 3 f fd P_LiveRow_locked_names (spShut K CR CM CV) := by
  refine F.ok sc_LiveRow_locked_names (fun vs H Q E h => ?_) (fun cdv A outer s H vs Q E hr h => ?_)
  · obtain ⟨a, d, u, rain, bs, x, dn, un, rfl, _⟩ := h
    rfl
  · obtain ⟨a, d, u, rain, bs, x, dn, un, rfl, ⟨dx, m, rv, h1, hrow, ⟨dm, hh, la, g1, _, g2⟩, _⟩, ok, mok, k⟩ := h
    obtain ⟨r, dr, _, _, rfl, r1, _⟩ := id hrow
    have hcn := ok.cnt
    refine ⟨_, (pss_one (ps_ret (pe_lc (own := [("name", 1), ("locked", 2)]) (g := gTup K 2 (gCons (gName 1) (gCons (gName 2) gNil))) (by rfl) sc_LiveRow_locked_names.nd (pi_zipM false false (by rfl) T.n_zip (pa_cons (pe_propF c_Row_names (hr.mono (by decide)) (pe_fld (pv 0) rfl) rfl) (pa_cons (pe_fld (pe_fld (pv 0) rfl) rfl) pa_nil))) (blkOk_by (own := [("name", 1), ("locked", 2)]) (N := N_LiveRow_locked_names) (sc := defScope s_LiveRow_locked_names) (by decide +kernel)) (fun _ _ _ _ _ => (pg_tup rfl (pgs_cons (pg_name (i := 1) sc_LiveRow_locked_names.nd rfl (.inl rfl)) (pgs_cons (pg_name (i := 2) sc_LiveRow_locked_names.nd rfl (.inl rfl)) pgs_nil)))) (fun _ _ _ _ _ => (pts_one (pt_val (pv 2)))) (fun _ _ _ _ _ => (pv 1))))), ?_⟩
    refine ⟨_, rfl, a, CV, dx, _, .ref r, rfl, h1, TV.cl_LiveRow, TV.na_LiveRow_row, rfl, r, dr, _, rfl, r1, .ref r, rain, bs, rfl, hrow, by omega, fun np H2 s2 hnp => ?_⟩
    refine ⟨_, rfl, a, CV, dx, _, .ref m, rfl, s2 _ _ h1, TV.cl_LiveRow, TV.na_LiveRow_moment, rfl, m, CM, dm, _, .ref la, rfl, s2 _ _ g1, TM.cl_Moment, TM.na_Moment_locks, rfl, ?_⟩
    have g22 := same_t s2 g2
    have nlen : (names bs).length = bs.length := by unfold names; simp
    have hmin : min (names bs).length (x.ls.map V.bl).length = bs.length := by rw [nlen, List.length_map, mok.kl, Nat.min_self]
    refine ⟨np, la, _, _, rfl, .inl (.inl hnp), g22, fun D nD => lc_it (walk_zipM rfl) (fun i H' => Same H2 H' ∧ H' D = some (.lst ((shutOf bs x.ls i).map V.str))) ⟨same_new nD, upd_same⟩ (fun i H' _ p => ⟨.inl (.inl (p.1 _ _ hnp)), same_t p.1 g22⟩) ?_ ?_⟩
    · rintro i y H3 H4 hi ⟨s3, d1⟩ ⟨tt, z1, z2, rfl, ntt, rfl, w1, w2⟩
      rw [hmin] at hi
      have hib : bs[i]? = some bs[i] := List.getElem?_eq_getElem hi
      have ed : bs.getD i dB = bs[i] := by rw [List.getD_eq_getElem?_getD, hib]; rfl
      have q1 : z1 = .str bs[i].name := by
        have w1 : (names bs)[i]? = some z1 := w1
        unfold names at w1
        rw [List.getElem?_map, nth_name hib] at w1
        exact (Option.some.inj w1).symm
      have q2 : z2 = .bl (x.ls.getD i false) := by
        have w2 : (x.ls.map V.bl)[i]? = some z2 := w2
        have hi' : i < x.ls.length := by rw [mok.kl]; exact hi
        rw [List.getElem?_map, List.getElem?_eq_getElem hi'] at w2
        rw [List.getD_eq_getElem?_getD, List.getElem?_eq_getElem hi']
        exact (Option.some.inj w2).symm
      subst q1
      subst q2
      have s4 := same_new (o := .tup [V.str bs[i].name, .bl (x.ls.getD i false)]) ntt
      have hlen : (shutOf bs x.ls i).length ≤ i := by
        unfold shutOf
        rw [List.length_map]
        exact Nat.le_trans (List.length_filter_le _ _) (by rw [List.length_range]; exact Nat.le_refl _)
      have hsuc : shutOf bs x.ls (i + 1) = if x.ls.getD i false = true then shutOf bs x.ls i ++ [bs[i].name] else shutOf bs x.ls i := by
        unfold shutOf
        rw [List.range_succ, List.filter_append, List.map_append]
        by_cases h : x.ls.getD i false = true
        · have e : List.filter (fun i => x.ls.getD i false) [i] = [i] := List.filter_cons_of_pos (p := fun i => x.ls.getD i false) h
          rw [if_pos h, e, List.map_cons, ed]
          rfl
        · have e : List.filter (fun i => x.ls.getD i false) [i] = [] := List.filter_cons_of_neg (p := fun i => x.ls.getD i false) h
          rw [if_neg h, e]
          simp
      refine ⟨tt, _, rfl, .inl (.inl upd_same), rfl, _, _, rfl, _, _, rfl, rfl, rfl, _, rfl, ?_⟩
      by_cases h : x.ls.getD i false = true
      · rw [if_pos h] at hsuc
        refine ⟨_, rfl, iteBT h ⟨_, rfl, _, s4 _ _ d1, by rw [List.length_map]; exact Nat.lt_of_lt_of_le (Nat.lt_of_le_of_lt hlen hi) (Nat.le_trans hcn (by decide)), Same.mut (s3.trans s4) nD, ?_⟩⟩
        rw [hsuc, List.map_append]
        exact upd_same
      · rw [if_neg h] at hsuc
        refine ⟨_, rfl, iteBF (by simpa using h) ⟨s3.trans s4, ?_⟩⟩
        rw [hsuc]
        exact s4 _ _ d1
    · rintro H3 ⟨s3, d1⟩
      rw [hmin] at d1
      exact k D H3 (s2.trans s3) (s2.free nD) d1
def spHist (K : PySem.W.Frag) (CR CM CV : Addr) : Sp := fun vs H Q _ => ∃ (a d u : Addr) (rain : List Int) (bs : List Bar) (x : Mo) (dn un : List (List V × Mo)), vs = [.ref a] ∧ LiAt K CR CM CV H a d u rain bs x dn un ∧ dn.length ≤ 1000 ∧ ∀ D qs H', Same H H' → H D = none → H' D = some (.lst qs) → qs.length = dn.length → (∀ (i : Nat) (v : V) (p : List V × Mo), qs[i]? = some v → dn[i]? = some p → ∃ q, v = .ref q ∧ H q = some (.tup p.1)) → Q (.ref D) H'
theorem ok_hist {f : Addr} {fd : FuncData} (F : Fun K "history" "LiveRow.history" s_LiveRow_history f fd) (T : Txt K mg CP CR) (TV : Txt_LiveRow K mg CV) : FnOk P w K mg base CX0 1 f fd P_LiveRow_history (spHist K CR CM CV) := by
  refine F.ok sc_LiveRow_history (fun vs H Q E h => ?_) (fun cdv A outer s H vs Q E hr h => ?_)
  · obtain ⟨a, d, u, rain, bs, x, dn, un, rfl, _⟩ := h
    rfl
  · obtain ⟨a, d, u, rain, bs, x, dn, un, rfl, ⟨dx, m, rv, h1, hrow, hm, ⟨xs, hd, hxl, hxs⟩, _⟩, hl, k⟩ := h
    refine ⟨_, (pss_one (ps_ret (pe_lc (own := [("step", 1)]) (g := gName 1) (by rfl) sc_LiveRow_history.nd (pi_list (pe_fld (pv 0) rfl)) (blkOk_by (own := [("step", 1)]) (N := N_LiveRow_history) (sc := defScope s_LiveRow_history) (by decide +kernel)) (fun _ _ _ _ _ => (pg_name (i := 1) sc_LiveRow_history.nd rfl (.inl rfl))) (fun _ _ _ _ _ => pts_nil) (fun _ _ _ _ _ => (pe_ix (ixK (K := K) (r := rIxT) rfl ix_tup) (pv 1) pe_int (fun _ _ => rfl)))))), ?_⟩
    refine ⟨_, rfl, a, CV, dx, _, .ref d, rfl, h1, TV.cl_LiveRow, TV.na_LiveRow_done, rfl, d, rfl, ⟨_, SqL.of hd⟩, fun D nD => lc_it walk_list (fun i H' => Same H H' ∧ ∃ qs, H' D = some (.lst qs) ∧ qs.length = i ∧ ∀ (j : Nat) (v : V) (p : List V × Mo), qs[j]? = some v → dn[j]? = some p → ∃ q, v = .ref q ∧ H q = some (.tup p.1)) ⟨same_new nD, [], upd_same, rfl, fun j v p h => by simp at h⟩ (fun i H' _ p => SqL.of (p.1 _ _ hd)) ?_ ?_⟩
    · rintro i y H3 H4 hi ⟨s3, qs, d1, d2, d3⟩ ⟨rfl, hy⟩
      have hid : i < dn.length := by omega
      have hp : dn[i]? = some dn[i] := List.getElem?_eq_getElem hid
      obtain ⟨s, q, mm, rfl, w1, w2, w3⟩ := hxs i y _ hy hp
      refine ⟨rfl, _, rfl, s, _, _, _, rfl, rfl, .inl (.inl (s3 _ _ w1)), rfl, _, d1, by rw [d2]; exact Nat.lt_of_lt_of_le hid (Nat.le_trans hl (by decide)), Same.mut s3 nD, qs ++ [.ref q], upd_same, by rw [List.length_append, d2]; rfl, fun j v p hv hpj => ?_⟩
      by_cases hj : j < qs.length
      · rw [List.getElem?_append_left hj] at hv
        exact d3 j v p hv hpj
      · rw [List.getElem?_append_right (by omega)] at hv
        have hj0 : j = qs.length := by
          have := (List.getElem?_eq_some_iff.mp hv).1
          simp at this
          omega
        subst hj0
        rw [Nat.sub_self] at hv
        cases Option.some.inj hv
        rw [d2, hp] at hpj
        cases Option.some.inj hpj
        exact ⟨q, rfl, w2⟩
    · rintro H3 ⟨s3, qs, d1, d2, d3⟩
      exact k D qs H3 s3 nD d1 (by omega) d3
end
end Bk
set_option Elab.async false
set_option maxRecDepth 100000
set_option maxHeartbeats 2000000
namespace Bk
open PySem PySem.Spec PyProof.Rows L2 NdefX LamX
section
variable {P : Program} {w : World} {K : PySem.W.Frag} {mg : Str → Option Value} {base : Heap} {CP CR CO : Addr}
/-! ### InvalidOperation -/
def spOpI (C : Addr) : Sp := fun vs H Q _ => ∃ (a : Addr) (i : Nat), vs = [.ref a, .int i] ∧ H a = some (exo a C none) ∧ i ≤ 300 ∧ ∀ dx, H dx = none → dx ≠ a → Q .non (upd (upd H dx (exd dx [("index", .int i)])) a (exo a C (some dx)))
theorem off_log {i : Nat} (h : i ≤ 300) : ((i : Nat) : Int).natAbs.log2 < 1920 := by
  have : ∀ j : Fin 301, ((j.val : Nat) : Int).natAbs.log2 < 1920 := by decide +kernel
  exact this ⟨i, by omega⟩
theorem off_len {i : Nat} (h : i ≤ 300) : ((toString ((i : Nat) : Int) : String) : Str).length ≤ 20 := by
  have : ∀ j : Fin 301, ((toString ((j.val : Nat) : Int) : String) : Str).length ≤ 20 := by decide +kernel
  exact this ⟨i, by omega⟩
theorem ok_op_init {CX : CXT} {f cda cc C : Addr} {oc doc pm ctv : Value} {od : Option Addr} {osl : Array (Option Value)} (U : SupOk P K mg C (exF s_InvalidOperation_init "InvalidOperation.__init__" cda cc) cc)
    (lk : K.lookup f = some ⟨oc, od, .func ((exF s_InvalidOperation_init "InvalidOperation.__init__" cda cc).fd doc pm ctv), osl⟩) (hno : PySem.W.findIn K (.ref C) "index" = some none) :
    FnOk P w K mg base CX 2 f ((exF s_InvalidOperation_init "InvalidOperation.__init__" cda cc).fd doc pm ctv) P_InvalidOperation_init (spOpI C) := by
  refine fn_super (k := 1) U lk nsc_InvalidOperation_init (show (defScope s_InvalidOperation_init).names.lookup ("super" : Str) = some .globalImplicit by decide +kernel) rfl rfl rfl (fun vs H Q E h => ?_) (fun env => rfl) (fun env => rfl) (fun env => rfl) (fun A outer s H vs Q E hr h => ?_)
  · obtain ⟨a, i, rfl, _⟩ := h
    rfl
  · obtain ⟨a, i, rfl, ha, hi, k⟩ := h
    refine ⟨_, _, a, rfl, ha, pe_joined (.cons pe_str (.cons (pe_fmt (pv 1)) .nil)), pss_one (ps_ost (pv 0) (pv 1)), ?_⟩
    refine ⟨_, rfl, by decide, _, rfl, .inr ⟨(i : Nat), rfl, off_log hi, _, rfl, ?_, rfl, ha, ?_⟩⟩
    · rw [Str.length_append]
      exact Nat.le_trans (Nat.add_le_add_left (off_len hi) _) (by decide)
    · exact ⟨_, rfl, _, rfl, a, C, rfl, U.T, hno, .inl ⟨ha, fun dx n ne => k dx n ne⟩⟩
theorem op_raise {H : Hp} {C : Addr} {i : Nat} {Q : XK} (hi : i ≤ 300) (k : ∀ d H', Same H H' → H d = none → H' d = some (.xd [("index", .int (i : Nat))]) → Q (.ref C) (some d) H') (a : Addr) (ha : H a = none) :
    spOpI C ([.ref a] ++ [.int (i : Nat)]) (upd H a (exo a C none)) (fun v H2 => v = .non ∧ ∃ (d : Addr) (fs : List (Str × V)), H2 a = some (exo a C (some d)) ∧ H2 d = some (exd d fs) ∧ H d = none ∧ Q (.ref C) (some d) (upd (L2.del H2 a) d (.xd fs))) (fun _ _ _ => False) :=
  ⟨a, i, rfl, upd_same, hi, fun d hd hda => ⟨rfl, d, _, upd_same, by rw [upd_ne hda]; exact upd_same, by rw [upd_ne hda] at hd; exact hd, k d _ (raise_same ha hd hda) (by rw [upd_ne hda] at hd; exact hd) upd_same⟩⟩
/-! ### which operations there are -/
def dOps : List PyData := [.tuple [.str "pour", .int 1], .tuple [.str "scoop", .int 2], .tuple [.str "lock", .int 1], .tuple [.str "unlock", .int 1]]
/-- the global OPERATIONS -/
structure OpsG (K : PySem.W.Frag) (mg : Str → Option Value) (OPSA : Addr) : Prop where
  mg : mg "OPERATIONS" = some (.ref OPSA)
  dp : ∀ H : Hp, Dp K H (.ref OPSA) (.tuple dOps)
theorem eqv2 (a b : Str) (i j : Int) : PyData.eqv (.tuple [.str a, .int i]) (.tuple [.str b, .int j]) = (a == b && i == j) := by
  rw [PyData.eqv, PyData.eqvAll, PyData.eqvAll, PyData.eqv, PyData.eqv, PyData.eqvAll]
  rw [Bool.and_true]
/-- an operation as data: texts and numbers, a text first -/
def OpD (l : List V) : Prop := l.length ≤ 5 ∧ (l = [] ∨ ∃ (w : Str) (r : List V), l = .str w :: r ∧ PyData.strOk w = true)
def opOk (l : List V) : Bool := match l with
  | .str w :: r => (w == "pour" && r.length == 1) || (w == "scoop" && r.length == 2) || (w == "lock" && r.length == 1) || (w == "unlock" && r.length == 1)
  | _ => false
theorem ops_any {w : Str} {r : List V} : (dOps.any fun z => PyData.eqv z (.tuple [.str w, .int ((((.str w :: r : List V).length : Nat) : Int) - 1)])) = opOk (.str w :: r) := by
  unfold dOps opOk
  simp only [List.any_cons, List.any_nil, eqv2, Bool.or_false]
  have e : ∀ n : Nat, ((n : Int) == (((V.str w :: r).length : Nat) : Int) - 1) = (r.length == n) := fun n => by
    rw [List.length_cons]
    by_cases h : r.length = n
    · rw [show ((r.length == n) = true) from by simpa using h]
      simp
      omega
    · rw [show ((r.length == n) = false) from by simpa using h]
      simp
      omega
  have c : ∀ a : Str, (a == w) = (w == a) := fun a => by
    by_cases h : a = w
    · rw [h]
    · rw [show ((a == w) = false) from by simpa using h, show ((w == a) = false) from by simpa using fun e => h e.symm]
  have e1 : ((1 : Int) == (((V.str w :: r).length : Nat) : Int) - 1) = (r.length == 1) := e 1
  have e2 : ((2 : Int) == (((V.str w :: r).length : Nat) : Int) - 1) = (r.length == 2) := e 2
  rw [e1, e2, c "pour", c "scoop", c "lock", c "unlock"]
  simp only [Bool.or_assoc]
theorem dOps_shaped : SeqAt.shaped (.tuple dOps) = true := by decide +kernel
theorem op2_shaped {w : Str} {i : Int} (h : PyData.strOk w = true) : SeqAt.shaped (.tuple [.str w, .int i]) = true := by
  refine Bool.and_eq_true_iff.mpr ⟨lay_all fun d hd => ?_, decide_eq_true ?_⟩
  · simp only [List.mem_cons, List.not_mem_nil, or_false] at hd
    rcases hd with rfl | rfl
    · exact h
    · rfl
  · have : PyData.depth (.tuple [.str w, .int i]) ≤ 2 := depth_all fun d hd => by
      simp only [List.mem_cons, List.not_mem_nil, or_false] at hd
      rcases hd with rfl | rfl
      · exact depth_str _
      · exact depth_int _
    omega
/-- operations told by a list of tuples -/
def OpsAt (K : PySem.W.Frag) (H : Hp) (qs : List V) (ls : List (List V)) : Prop := qs.length = ls.length ∧ ∀ (i : Nat) (v : V) (l : List V), qs[i]? = some v → ls[i]? = some l → ∃ q, v = .ref q ∧ SqT K H q l ∧ OpD l
theorem OpsAt.mono {H H' : Hp} {qs : List V} {ls : List (List V)} (s : Same H H') (h : OpsAt K H qs ls) : OpsAt K H' qs ls :=
  ⟨h.1, fun i v l hv hl => by
    obtain ⟨q, e1, e2, e3⟩ := h.2 i v l hv hl
    exact ⟨q, e1, same_t s e2, e3⟩⟩
def spCheckOps (K : PySem.W.Frag) (CO : Addr) : Sp := fun vs H Q E => ∃ (p : Addr) (qs : List V) (ls : List (List V)), vs = [.ref p] ∧ SqL K H p qs ∧ OpsAt K H qs ls ∧ ls.length ≤ 100 ∧ ((∀ l ∈ ls, opOk l = true) → ∀ H', Same H H' → Q .non H') ∧
  (∀ (i : Nat) (l : List V), ls[i]? = some l → opOk l = false → (∀ (j : Nat) (l' : List V), j < i → ls[j]? = some l' → opOk l' = true) → ∀ d H', Same H H' → H d = none → H' d = some (.xd [("index", .int (i : Nat))]) → E (.ref CO) (some d) H')
theorem ok_check_ops {f OPSA : Addr} {fd : FuncData} (F : Fun K "check_operations" "check_operations" s_check_operations f fd) (T : Txt K mg CP CR) (hOPS : OpsG K mg OPSA) (e_InvalidOperation : ExK P w K mg base "InvalidOperation" CO ["index"] 2 (spOpI CO)) :
    FnOk P w K mg base (L2.CX P w) 4 f fd P_check_operations (spCheckOps K CO) := by
  refine F.okX sc_check_operations (fun vs H Q E h => ?_) (fun cdv A outer s H vs Q E hr h => ?_)
  · obtain ⟨p, qs, ls, rfl, _⟩ := h
    rfl
  · obtain ⟨p, qs, ls, rfl, hp, ho, hl, k, kx⟩ := h
    have tk : Takes (cxOf (L2.CX P w) P w K mg base N_check_operations "check_operations" (defScope s_check_operations) f cdv A outer s H E) (fun cls d _ H => E cls d H) := takes_of rfl rfl rfl rfl
    refine ⟨_, (pss_one (ps_for (passes_of rfl) rfl (pi_enumM true (by rfl) T.n_enumerate (pa_cons (pv 0) pa_nil)) (pg_tup rfl (pgs_cons (pg_name (i := 1) sc_check_operations.nd rfl (.inl rfl)) (pgs_cons (pg_name (i := 2) sc_check_operations.nd rfl (.inl rfl)) pgs_nil)))
        (pss_one (ps_if (PW.pt (pw_or (pt_cmpR op_eq (pe_callB call_len_seq (by rfl) T.n_len bt_len (pa_cons (pv 2) pa_nil)) pe_int (nomark _)) (pw_or1 (pt_cmpR (op_notInT (units65 hr)) (pe_tup (pa_cons (pe_ix ix_tup (pv 2) pe_int (fun _ _ => rfl)) (pa_cons (pe_op op_sub (pe_callB call_len_seq (by rfl) T.n_len bt_len (pa_cons (pv 2) pa_nil)) pe_int) pa_nil))) (pe_glob (v := .ref OPSA) (by rfl) hOPS.mg rfl) (by with_unfolding_all rfl)))))
        (pss_one (ps_raise rfl tk (pmk_exK e_InvalidOperation (hr.mono (by decide)) (by rfl) (pk_cons (pv 1) pk_nil))))
        pss_nil)))), ?_⟩
    have hql := ho.1
    refine ⟨_, rfl, p, qs, rfl, hp, for_it walk_enumM (fun j σ H' => Same H H' ∧ (∀ (i : Nat) (l : List V), i < j → ls[i]? = some l → opOk l = true) ∧ ∃ x y, σ = [some (.ref p), x, y]) ⟨Same.refl _, fun i l hi => absurd hi (Nat.not_lt_zero _), _, _, rfl⟩ (fun j σ H' _ q => q.1.seq hp) ?_ ?_⟩
    · rintro j x σ H2 H3 hj ⟨s2, hji, x0, y0, rfl⟩ ⟨t, z1, z2, rfl, nt, rfl, w1, w2⟩
      cases w1
      have hlj : ls[j]? = some ls[j] := List.getElem?_eq_getElem (by omega)
      obtain ⟨q, rfl, hq, od⟩ := ho.2 j z2 _ w2 hlj
      have s3 := s2.trans (same_new (o := .tup [.int (j : Nat), .ref q]) nt)
      have hq3 := same_t s3 hq
      refine ⟨t, _, rfl, .inl (.inl upd_same), rfl, _, _, rfl, _, _, rfl, rfl, ?_⟩
      refine ⟨_, rfl, q, _, rfl, .inr hq3, rfl, _, rfl, ?_⟩
      have bad : opOk ls[j] = false → ∀ {H4 : Hp}, Same H H4 → tMkK CO 1 (spOpI CO) (fun vs zs => vs ++ zs) (tCons (tVar 1) tNil) [some (.ref p), some (.int (j : Nat)), some (.ref q)] H4 (fun cls d H' => E cls d H') := fun hb H4 s4 =>
        ⟨_, rfl, rfl, op_raise (by omega) fun d H' s d0 d1 => kx j _ hlj hb (fun i l' hi hl' => hji i l' hi hl') d H' (s4.trans s) (s4.free d0) d1⟩
      have good : opOk ls[j] = true → ∀ H', Same H H' → Same H H' ∧ (∀ (i : Nat) (l : List V), i < j + 1 → ls[i]? = some l → opOk l = true) ∧ ∃ x y, [some (.ref p), some (.int (j : Nat)), some (.ref q)] = [some (V.ref p), x, y] := fun hg H' s => by
        refine ⟨s, fun i l hi hl' => ?_, _, _, rfl⟩
        by_cases e : i = j
        · rw [e, hlj] at hl'
          rw [← Option.some.inj hl']
          exact hg
        · exact hji i l (by omega) hl'
      obtain ⟨od1, od2⟩ := od
      rcases od2 with e | ⟨wd, r, e, hwd⟩
      · rw [e] at bad ⊢
        exact iteBT (vi_eq rfl) (bad rfl s3)
      · rw [e] at bad good hq3 ⊢
        refine iteBF (vi_ne (by rw [List.length_cons]; omega)) ?_
        refine ⟨_, rfl, q, _, _, _, rfl, rfl, hq3, at_of (j := 0) rfl rfl, _, rfl, q, _, rfl, .inr hq3, _, _, rfl, rfl, by show 2 ≤ sizeLine; decide, fun t2 nt2 => ?_⟩
        have s4 := s3.trans (same_new (o := .tup [V.str wd, .int ((((V.str wd :: r).length : Nat) : Int) - 1)]) nt2)
        refine ⟨.tuple [.str wd, .int ((((V.str wd :: r).length : Nat) : Int) - 1)], dOps, .tup (.inl (.inl upd_same)) (.cons (.str _) (.cons (.int _) .nil)), hOPS.dp _, op2_shaped hwd, dOps_shaped, _, rfl, ?_⟩
        rw [ops_any]
        cases hg : opOk (.str wd :: r) with
        | true => exact iteBF rfl (good hg _ s4)
        | false => exact iteBT rfl (bad hg s4)
    · rintro σ H2 ⟨s2, hji, x0, y0, rfl⟩
      exact k (fun l hl' => by
        obtain ⟨i, hi⟩ := List.mem_iff_getElem?.mp hl'
        exact hji i l (by rw [hql]; exact (List.getElem?_eq_some_iff.mp hi).1) hi) H2 s2
end
end Bk
set_option Elab.async false
set_option maxRecDepth 100000
set_option maxHeartbeats 2000000
namespace Bk
open PySem PySem.Spec PyProof.Rows L2 LamX
section
variable {P : Program} {w : World} {K : PySem.W.Frag} {mg : Str → Option Value} {base : Heap} {CP CR CM CV CN CU CO : Addr}
def spTakeOver (K : PySem.W.Frag) (CR CM CV : Addr) : Sp := fun vs H Q _ => ∃ (a d u b e v : Addr) (rain : List Int) (bs : List Bar) (x y : Mo) (dn un dn' un' : List (List V × Mo)), vs = [.ref a, .ref b] ∧ LiAt K CR CM CV H a d u rain bs x dn un ∧ LiAt K CR CM CV H b e v rain bs y dn' un' ∧ a ≠ b ∧
  ∀ H' d' u', KeepL [a] H H' → H d' = none → H u' = none → LiAt K CR CM CV H' a d' u' rain bs y dn' un' → Q .non H'
theorem ok_take_over {f : Addr} {fd : FuncData} (F : Fun K "_take_over" "LiveRow._take_over" s_LiveRow_take_over f fd) (T : Txt K mg CP CR) (TV : Txt_LiveRow K mg CV) (hR : CR ≠ CV) (hM : CM ≠ CV) : FnOk P w K mg base CX0 1 f fd P_LiveRow_take_over (spTakeOver K CR CM CV) := by
  refine F.ok sc_LiveRow_take_over (fun vs H Q E h => ?_) (fun cdv A outer s H vs Q E hr h => ?_)
  · obtain ⟨a, d, u, b, e, v, rain, bs, x, y, dn, un, dn', un', rfl, _⟩ := h
    rfl
  · obtain ⟨a, d, u, b, e, v, rain, bs, x, y, dn, un, dn', un', rfl, hla, hlb, hab, k⟩ := h
    obtain ⟨dxa, ma, rva, a1, a2, _⟩ := id hla
    obtain ⟨dxb, mb, rvb, b1, b2, b3, ⟨xs, b4, b5, b6⟩, ⟨ys, b7, b8, b9⟩, bne⟩ := id hlb
    refine ⟨_, (pss_cons (ps_fld (pv 0) (pe_fld (pv 1) rfl) rfl)
      (pss_cons (ps_fld (pv 0) (pe_callTy call_list_of (by rfl) T.n_list bt_list (pa_cons (pe_fld (pv 1) rfl) pa_nil)) rfl)
      (pss_one (ps_fld (pv 0) (pe_callTy call_list_of (by rfl) T.n_list bt_list (pa_cons (pe_fld (pv 1) rfl) pa_nil)) rfl)))), ?_⟩
    refine ⟨_, rfl, b, CV, dxb, _, .ref mb, rfl, b1, TV.cl_LiveRow, TV.na_LiveRow_moment, rfl, _, rfl, a, CV, dxa, _, rfl, a1, TV.cl_LiveRow, TV.na_LiveRow_moment, by show 4 < 1000; decide, ?_⟩
    have k1 : KeepL [a] H (upd H a (.ins CV dxa (putF "_moment" (V.ref mb) (liF rva ma d u)))) := fun c o q n => by rw [upd_ne (by simpa using n)]; exact q
    have bN : b ∉ [a] := by simpa using hab.symm
    have h1a : (upd H a (.ins CV dxa (putF "_moment" (V.ref mb) (liF rva ma d u)))) a = some (.ins CV dxa (liF rva mb d u)) := upd_same
    generalize upd H a (.ins CV dxa (putF "_moment" (V.ref mb) (liF rva ma d u))) = H1 at k1 h1a
    have eN : e ∉ [a] := fun z => by rw [List.mem_singleton.mp z, a1] at b4; cases b4
    have vN : v ∉ [a] := fun z => by rw [List.mem_singleton.mp z, a1] at b7; cases b7
    refine ⟨_, rfl, b, CV, dxb, _, .ref e, rfl, k1 _ _ b1 bN, TV.cl_LiveRow, TV.na_LiveRow_done, rfl, e, xs, rfl, .inl (SqL.of (k1 _ _ b4 eN)), fun d' nd' => ?_⟩
    have s2 := same_new (o := .lst xs) nd'
    have nda : d' ≠ a := fun z => by rw [z, h1a] at nd'; cases nd'
    refine ⟨_, rfl, a, CV, dxa, _, rfl, s2 _ _ h1a, TV.cl_LiveRow, TV.na_LiveRow_done, by show 4 < 1000; decide, ?_⟩
    have k3 : KeepL [a] H1 (upd (upd H1 d' (.lst xs)) a (.ins CV dxa (putF "_done" (V.ref d') (liF rva mb d u)))) := fun c o q n => by rw [upd_ne (by simpa using n)]; exact s2 _ _ q
    have h3a : (upd (upd H1 d' (.lst xs)) a (.ins CV dxa (putF "_done" (V.ref d') (liF rva mb d u)))) a = some (.ins CV dxa (liF rva mb d' u)) := upd_same
    have h3d : (upd (upd H1 d' (.lst xs)) a (.ins CV dxa (putF "_done" (V.ref d') (liF rva mb d u)))) d' = some (.lst xs) := by rw [upd_ne nda]; exact upd_same
    generalize upd (upd H1 d' (.lst xs)) a (.ins CV dxa (putF "_done" (V.ref d') (liF rva mb d u))) = H3 at k3 h3a h3d
    have k03 := k1.tr k3
    refine ⟨_, rfl, b, CV, dxb, _, .ref v, rfl, k03 _ _ b1 bN, TV.cl_LiveRow, TV.na_LiveRow_undone, rfl, v, ys, rfl, .inl (SqL.of (k03 _ _ b7 vN)), fun u' nu' => ?_⟩
    have s4 := same_new (o := .lst ys) nu'
    have nua : u' ≠ a := fun z => by rw [z, h3a] at nu'; cases nu'
    have ndu : d' ≠ u' := ne_of_none h3d nu'
    refine ⟨_, rfl, a, CV, dxa, _, rfl, s4 _ _ h3a, TV.cl_LiveRow, TV.na_LiveRow_undone, by show 4 < 1000; decide, ?_⟩
    have k5 : KeepL [a] H3 (upd (upd H3 u' (.lst ys)) a (.ins CV dxa (putF "_undone" (V.ref u') (liF rva mb d' u)))) := fun c o q n => by rw [upd_ne (by simpa using n)]; exact s4 _ _ q
    have h5a : (upd (upd H3 u' (.lst ys)) a (.ins CV dxa (putF "_undone" (V.ref u') (liF rva mb d' u)))) a = some (.ins CV dxa (liF rva mb d' u')) := upd_same
    have h5u : (upd (upd H3 u' (.lst ys)) a (.ins CV dxa (putF "_undone" (V.ref u') (liF rva mb d' u)))) u' = some (.lst ys) := by rw [upd_ne nua]; exact upd_same
    have h5d := k5 _ _ h3d (by simpa using nda)
    generalize upd (upd H3 u' (.lst ys)) a (.ins CV dxa (putF "_undone" (V.ref u') (liF rva mb d' u))) = H5 at k5 h5a h5u h5d
    have k05 := k03.tr k5
    have mv : MvL CV H [a] := fun c hc => by rw [List.mem_singleton.mp hc]; exact .inr (.inl ⟨_, _, a1⟩)
    have nd0 : H d' = none := by
      cases q : H d' with
      | none => rfl
      | some o => rw [k1 _ _ q (by simpa using nda)] at nd'; cases nd'
    have nu0 : H u' = none := by
      cases q : H u' with
      | none => rfl
      | some o => rw [k03 _ _ q (by simpa using nua)] at nu'; cases nu'
    refine k H5 d' u' k05 nd0 nu0 ⟨dxa, mb, rva, h5a, kl_row k05 mv hR a2, kl_mo k05 mv hM b3, ⟨xs, h5d, b5, fun i v p hv hp => kl_step k05 mv hM (b6 i v p hv hp)⟩, ⟨ys, h5u, b8, fun i v p hv hp => kl_step k05 mv hM (b9 i v p hv hp)⟩, ndu⟩
end
end Bk
set_option Elab.async false
set_option maxRecDepth 100000
set_option maxHeartbeats 4000000
namespace Bk
open PySem PySem.Spec PyProof.Rows L2 LamX
section
variable {P : Program} {w : World} {K : PySem.W.Frag} {mg : Str → Option Value} {base : Heap} {CP CR CM CV CN CU CO : Addr}
theorem steps_drop {H : Hp} {d : Addr} {dn : List (List V × Mo)} {p : List V × Mo} (h : StepsAt K CM H d (dn ++ [p])) : ∃ xs v, H d = some (.lst (xs ++ [v])) ∧ xs.length = dn.length ∧ StepAt K CM H v p ∧ ∀ (i : Nat) (v : V) (p : List V × Mo), xs[i]? = some v → dn[i]? = some p → StepAt K CM H v p := by
  obtain ⟨ys, h1, h2, h3⟩ := h
  have hl : ys.length = dn.length + 1 := by rw [h2, List.length_append]; rfl
  have hne : ys ≠ [] := fun e => by rw [e] at hl; simp at hl
  refine ⟨ys.dropLast, ys.getLast hne, by rw [List.dropLast_concat_getLast]; exact h1, by rw [List.length_dropLast, hl]; rfl, h3 dn.length _ _ ?_ ?_, fun i v q hv hq => h3 i v q ?_ ?_⟩
  · rw [List.getLast_eq_getElem, List.getElem?_eq_getElem (by omega)]
    congr 1
    simp [hl]
  · rw [List.getElem?_append_right (Nat.le_refl _), Nat.sub_self]
    rfl
  · have hi := (List.getElem?_eq_some_iff.mp hv).1
    rw [List.getElem?_dropLast] at hv
    split at hv
    · exact hv
    · cases hv
  · rw [List.getElem?_append_left (List.getElem?_eq_some_iff.mp hq).1]
    exact hq
theorem steps_app {H : Hp} {d : Addr} {dn : List (List V × Mo)} {p : List V × Mo} {xs : List V} {v : V} (h : H d = some (.lst (xs ++ [v]))) (hl : xs.length = dn.length) (hs : ∀ (i : Nat) (v : V) (p : List V × Mo), xs[i]? = some v → dn[i]? = some p → StepAt K CM H v p) (hv : StepAt K CM H v p) : StepsAt K CM H d (dn ++ [p]) := by
  refine ⟨_, h, by rw [List.length_append, List.length_append, hl]; rfl, fun i u q hu hq => ?_⟩
  by_cases hi : i < xs.length
  · rw [List.getElem?_append_left hi] at hu
    rw [List.getElem?_append_left (by omega)] at hq
    exact hs i u q hu hq
  · rw [List.getElem?_append_right (by omega)] at hu
    rw [List.getElem?_append_right (by omega), ← hl] at hq
    cases e : i - xs.length with
    | succ m => rw [e] at hu; simp at hu
    | zero =>
      rw [e] at hu hq
      cases (Option.some.inj hu : v = u)
      cases (Option.some.inj hq : p = q)
      exact hv
def spUndo (K : PySem.W.Frag) (CR CM CV : Addr) : Sp := fun vs H Q _ => ∃ (a d u : Addr) (rain : List Int) (bs : List Bar) (x : Mo) (dn un : List (List V × Mo)), vs = [.ref a] ∧ LiAt K CR CM CV H a d u rain bs x dn un ∧ un.length ≤ 1000 ∧ (dn = [] → Q (.bl false) H) ∧
  (∀ dn0 l x0, dn = dn0 ++ [(l, x0)] → ∀ H', KeepL [a, d, u] H H' → LiAt K CR CM CV H' a d u rain bs x0 dn0 (un ++ [(l, x)]) → Q (.bl true) H')
theorem ok_undo {f : Addr} {fd : FuncData} (F : Fun K "undo" "LiveRow.undo" s_LiveRow_undo f fd) (T : Txt K mg CP CR) (TV : Txt_LiveRow K mg CV) (hR : CR ≠ CV) (hM : CM ≠ CV) : FnOk P w K mg base CX0 1 f fd P_LiveRow_undo (spUndo K CR CM CV) := by
  refine F.ok sc_LiveRow_undo (fun vs H Q E h => ?_) (fun cdv A outer s H vs Q E hr h => ?_)
  · obtain ⟨a, d, u, rain, bs, x, dn, un, rfl, _⟩ := h
    rfl
  · obtain ⟨a, d, u, rain, bs, x, dn, un, rfl, hli, hun, k0, k1⟩ := h
    have mv := hli.mv
    obtain ⟨dx, m, rv, h1, h2, h3, h4, ⟨ys, h5, h6, h7⟩, hdu⟩ := id hli
    refine ⟨_, (pss_cons (ps_if (pt_cmpR op_eq (pe_callB call_len_seq (by rfl) T.n_len bt_len (pa_cons (pe_fld (pv 0) rfl) pa_nil)) pe_int (nomark _))
        (pss_one (ps_ret pe_bl))
        pss_nil)
      (pss_cons (ps_asg (pe_bm0 PySem.F.plainAttrs_list PySem.F.slot_list_pop PySem.F.type_list_pop mt_pop (pe_fld (pv 0) rfl)) (pg_tup rfl (pgs_cons (pg_name (i := 1) sc_LiveRow_undo.nd rfl (.inl rfl)) (pgs_cons (pg_name (i := 2) sc_LiveRow_undo.nd rfl (.inl rfl)) pgs_nil))))
      (pss_cons (ps_expr (pe_bm PySem.F.plainAttrs_list PySem.F.slot_list_append PySem.F.type_list_append mt_append (pe_fld (pv 0) rfl) (pa_cons (pe_tup (pa_cons (pv 1) (pa_cons (pe_fld (pv 0) rfl) pa_nil))) pa_nil)))
      (pss_cons (ps_fld (pv 0) (pv 2) rfl)
      (pss_one (ps_ret pe_bl)))))), ?_⟩
    obtain ⟨xs0, h4a, h4b, _⟩ := id h4
    refine ⟨_, rfl, a, CV, dx, _, .ref d, rfl, h1, TV.cl_LiveRow, TV.na_LiveRow_done, rfl, d, xs0, rfl, .inl (SqL.of h4a), rfl, _, rfl, ?_⟩
    rcases List.eq_nil_or_concat dn with e | ⟨dn0, p, e⟩
    · subst e
      exact iteBT (vi_eq (by rw [h4b]; rfl)) (k0 rfl)
    · obtain ⟨l, x0⟩ := p
      have e : dn = dn0 ++ [(l, x0)] := by rw [e, List.concat_eq_append]
      subst e
      refine iteBF (vi_ne (by rw [h4b, List.length_append]; simp; omega)) ?_
      obtain ⟨xs, v, g1, g2, ⟨st, q, mm, rfl, g3, g4, g5⟩, g6⟩ := steps_drop h4
      have nad : a ≠ d := fun z => by rw [z, g1] at h1; cases h1
      have nau : a ≠ u := fun z => by rw [z, h5] at h1; cases h1
      -- pop
      refine ⟨_, rfl, a, CV, dx, _, .ref d, rfl, h1, TV.cl_LiveRow, TV.na_LiveRow_done, rfl, .inl ⟨rfl, _, SqL.of g1⟩, d, xs ++ [.ref st], .ref st, rfl, rfl, g1, ?_, ?_⟩
      · rw [List.length_append, List.getElem?_append_right (by simp)]
        simp
      rw [List.dropLast_concat]
      have hst : (upd H d (.lst xs)) st = some (.tup [.ref q, .ref mm]) := by rw [upd_ne (fun z => by rw [z, g1] at g3; cases g3)]; exact g3
      refine ⟨st, _, rfl, .inl (.inl hst), rfl, _, _, rfl, _, _, rfl, rfl, ?_⟩
      have k2 : KeepL [a, d, u] H (upd H d (.lst xs)) := fun b o e n => by rw [upd_ne (fun z => n (by rw [z]; simp))]; exact e
      have h1' : (upd H d (.lst xs)) a = some (.ins CV dx (liF rv m d u)) := by rw [upd_ne nad]; exact h1
      have h5' : (upd H d (.lst xs)) u = some (.lst ys) := by rw [upd_ne hdu.symm]; exact h5
      have hd' : (upd H d (.lst xs)) d = some (.lst xs) := upd_same
      generalize upd H d (.lst xs) = H2 at k2 h1' h5' hd' hst
      -- append
      refine ⟨_, rfl, a, CV, dx, _, .ref u, rfl, h1', TV.cl_LiveRow, TV.na_LiveRow_undone, rfl, .inl ⟨rfl, _, SqL.of h5'⟩, _, rfl, _, rfl, a, CV, dx, _, .ref m, rfl, h1', TV.cl_LiveRow, TV.na_LiveRow_moment, rfl, by show 2 ≤ sizeLine; decide, fun t nt => ?_⟩
      have s3 := same_new (o := .tup [V.ref q, .ref m]) nt
      refine ⟨u, ys, _, rfl, rfl, s3 _ _ h5', by rw [h6]; exact Nat.lt_of_le_of_lt hun (by decide), ?_⟩
      have h1'' : (upd (upd H2 t (.tup [V.ref q, .ref m])) u (.lst (ys ++ [.ref t]))) a = some (.ins CV dx (liF rv m d u)) := by rw [upd_ne nau]; exact s3 _ _ h1'
      refine ⟨_, rfl, _, rfl, a, CV, dx, _, rfl, h1'', TV.cl_LiveRow, TV.na_LiveRow_moment, by show 4 < 1000; decide, ?_⟩
      have n3 : ∀ {b : Addr}, b ∉ [a, d, u] → b ≠ a ∧ b ≠ d ∧ b ≠ u := fun n => by simpa using n
      have k4 : KeepL [a, d, u] H (upd (upd (upd H2 t (.tup [V.ref q, .ref m])) u (.lst (ys ++ [.ref t]))) a (.ins CV dx (putF "_moment" (V.ref mm) (liF rv m d u)))) := fun b o e n => by
        obtain ⟨x1, x2, x3⟩ := n3 n
        rw [upd_ne x1, upd_ne x3]
        exact s3 _ _ (k2 _ _ e n)
      have hd4 : (upd (upd (upd H2 t (.tup [V.ref q, .ref m])) u (.lst (ys ++ [.ref t]))) a (.ins CV dx (putF "_moment" (V.ref mm) (liF rv m d u)))) d = some (.lst xs) := by rw [upd_ne nad.symm, upd_ne hdu]; exact s3 _ _ hd'
      have hu4 : (upd (upd (upd H2 t (.tup [V.ref q, .ref m])) u (.lst (ys ++ [.ref t]))) a (.ins CV dx (putF "_moment" (V.ref mm) (liF rv m d u)))) u = some (.lst (ys ++ [.ref t])) := by rw [upd_ne nau.symm]; exact upd_same
      have ha4 : (upd (upd (upd H2 t (.tup [V.ref q, .ref m])) u (.lst (ys ++ [.ref t]))) a (.ins CV dx (putF "_moment" (V.ref mm) (liF rv m d u)))) a = some (.ins CV dx (liF rv mm d u)) := upd_same
      have nta : t ≠ a := (ne_of_none h1' nt).symm
      have ntu : t ≠ u := (ne_of_none h5' nt).symm
      have ht4 : (upd (upd (upd H2 t (.tup [V.ref q, .ref m])) u (.lst (ys ++ [.ref t]))) a (.ins CV dx (putF "_moment" (V.ref mm) (liF rv m d u)))) t = some (.tup [V.ref q, .ref m]) := by rw [upd_ne nta, upd_ne ntu]; exact upd_same
      generalize upd (upd (upd H2 t (.tup [V.ref q, .ref m])) u (.lst (ys ++ [.ref t]))) a (.ins CV dx (putF "_moment" (V.ref mm) (liF rv m d u))) = H4 at k4 hd4 hu4 ha4 ht4
      refine k1 dn0 l x0 rfl H4 k4 ⟨dx, mm, rv, ha4, kl_row k4 mv hR h2, kl_mo k4 mv hM g5, ⟨xs, hd4, g2, fun i v p hv hp => kl_step k4 mv hM (g6 i v p hv hp)⟩, steps_app hu4 h6 (fun i v p hv hp => kl_step k4 mv hM (h7 i v p hv hp)) ⟨t, q, m, rfl, ht4, kl_tup k4 mv g4, kl_mo k4 mv hM h3⟩, hdu⟩
def spRedo (K : PySem.W.Frag) (CR CM CV : Addr) : Sp := fun vs H Q _ => ∃ (a d u : Addr) (rain : List Int) (bs : List Bar) (x : Mo) (dn un : List (List V × Mo)), vs = [.ref a] ∧ LiAt K CR CM CV H a d u rain bs x dn un ∧ dn.length ≤ 1000 ∧ (un = [] → Q (.bl false) H) ∧
  (∀ un0 l x0, un = un0 ++ [(l, x0)] → ∀ H', KeepL [a, d, u] H H' → LiAt K CR CM CV H' a d u rain bs x0 (dn ++ [(l, x)]) un0 → Q (.bl true) H')
theorem ok_redo {f : Addr} {fd : FuncData} (F : Fun K "redo" "LiveRow.redo" s_LiveRow_redo f fd) (T : Txt K mg CP CR) (TV : Txt_LiveRow K mg CV) (hR : CR ≠ CV) (hM : CM ≠ CV) : FnOk P w K mg base CX0 1 f fd P_LiveRow_redo (spRedo K CR CM CV) := by
  refine F.ok sc_LiveRow_redo (fun vs H Q E h => ?_) (fun cdv A outer s H vs Q E hr h => ?_)
  · obtain ⟨a, d, u, rain, bs, x, dn, un, rfl, _⟩ := h
    rfl
  · obtain ⟨a, d, u, rain, bs, x, dn, un, rfl, hli, hdn, k0, k1⟩ := h
    have mv := hli.mv
    obtain ⟨dx, m, rv, h1, h2, h3, ⟨ys, h5, h6, h7⟩, h4, hdu⟩ := id hli
    refine ⟨_, (pss_cons (ps_if (pt_cmpR op_eq (pe_callB call_len_seq (by rfl) T.n_len bt_len (pa_cons (pe_fld (pv 0) rfl) pa_nil)) pe_int (nomark _))
        (pss_one (ps_ret pe_bl))
        pss_nil)
      (pss_cons (ps_asg (pe_bm0 PySem.F.plainAttrs_list PySem.F.slot_list_pop PySem.F.type_list_pop mt_pop (pe_fld (pv 0) rfl)) (pg_tup rfl (pgs_cons (pg_name (i := 1) sc_LiveRow_redo.nd rfl (.inl rfl)) (pgs_cons (pg_name (i := 2) sc_LiveRow_redo.nd rfl (.inl rfl)) pgs_nil))))
      (pss_cons (ps_expr (pe_bm PySem.F.plainAttrs_list PySem.F.slot_list_append PySem.F.type_list_append mt_append (pe_fld (pv 0) rfl) (pa_cons (pe_tup (pa_cons (pv 1) (pa_cons (pe_fld (pv 0) rfl) pa_nil))) pa_nil)))
      (pss_cons (ps_fld (pv 0) (pv 2) rfl)
      (pss_one (ps_ret pe_bl)))))), ?_⟩
    obtain ⟨xs0, h4a, h4b, _⟩ := id h4
    refine ⟨_, rfl, a, CV, dx, _, .ref u, rfl, h1, TV.cl_LiveRow, TV.na_LiveRow_undone, rfl, u, xs0, rfl, .inl (SqL.of h4a), rfl, _, rfl, ?_⟩
    rcases List.eq_nil_or_concat un with e | ⟨un0, p, e⟩
    · subst e
      exact iteBT (vi_eq (by rw [h4b]; rfl)) (k0 rfl)
    · obtain ⟨l, x0⟩ := p
      have e : un = un0 ++ [(l, x0)] := by rw [e, List.concat_eq_append]
      subst e
      refine iteBF (vi_ne (by rw [h4b, List.length_append]; simp; omega)) ?_
      obtain ⟨xs, v, g1, g2, ⟨st, q, mm, rfl, g3, g4, g5⟩, g6⟩ := steps_drop h4
      have nau : a ≠ u := fun z => by rw [z, g1] at h1; cases h1
      have nad : a ≠ d := fun z => by rw [z, h5] at h1; cases h1
      -- pop
      refine ⟨_, rfl, a, CV, dx, _, .ref u, rfl, h1, TV.cl_LiveRow, TV.na_LiveRow_undone, rfl, .inl ⟨rfl, _, SqL.of g1⟩, u, xs ++ [.ref st], .ref st, rfl, rfl, g1, ?_, ?_⟩
      · rw [List.length_append, List.getElem?_append_right (by simp)]
        simp
      rw [List.dropLast_concat]
      have hst : (upd H u (.lst xs)) st = some (.tup [.ref q, .ref mm]) := by rw [upd_ne (fun z => by rw [z, g1] at g3; cases g3)]; exact g3
      refine ⟨st, _, rfl, .inl (.inl hst), rfl, _, _, rfl, _, _, rfl, rfl, ?_⟩
      have k2 : KeepL [a, d, u] H (upd H u (.lst xs)) := fun b o e n => by rw [upd_ne (fun z => n (by rw [z]; simp))]; exact e
      have h1' : (upd H u (.lst xs)) a = some (.ins CV dx (liF rv m d u)) := by rw [upd_ne nau]; exact h1
      have h5' : (upd H u (.lst xs)) d = some (.lst ys) := by rw [upd_ne hdu]; exact h5
      have hd' : (upd H u (.lst xs)) u = some (.lst xs) := upd_same
      generalize upd H u (.lst xs) = H2 at k2 h1' h5' hd' hst
      -- append
      refine ⟨_, rfl, a, CV, dx, _, .ref d, rfl, h1', TV.cl_LiveRow, TV.na_LiveRow_done, rfl, .inl ⟨rfl, _, SqL.of h5'⟩, _, rfl, _, rfl, a, CV, dx, _, .ref m, rfl, h1', TV.cl_LiveRow, TV.na_LiveRow_moment, rfl, by show 2 ≤ sizeLine; decide, fun t nt => ?_⟩
      have s3 := same_new (o := .tup [V.ref q, .ref m]) nt
      refine ⟨d, ys, _, rfl, rfl, s3 _ _ h5', by rw [h6]; exact Nat.lt_of_le_of_lt hdn (by decide), ?_⟩
      have h1'' : (upd (upd H2 t (.tup [V.ref q, .ref m])) d (.lst (ys ++ [.ref t]))) a = some (.ins CV dx (liF rv m d u)) := by rw [upd_ne nad]; exact s3 _ _ h1'
      refine ⟨_, rfl, _, rfl, a, CV, dx, _, rfl, h1'', TV.cl_LiveRow, TV.na_LiveRow_moment, by show 4 < 1000; decide, ?_⟩
      have n3 : ∀ {b : Addr}, b ∉ [a, d, u] → b ≠ a ∧ b ≠ d ∧ b ≠ u := fun n => by simpa using n
      have k4 : KeepL [a, d, u] H (upd (upd (upd H2 t (.tup [V.ref q, .ref m])) d (.lst (ys ++ [.ref t]))) a (.ins CV dx (putF "_moment" (V.ref mm) (liF rv m d u)))) := fun b o e n => by
        obtain ⟨x1, x2, x3⟩ := n3 n
        rw [upd_ne x1, upd_ne x2]
        exact s3 _ _ (k2 _ _ e n)
      have hd4 : (upd (upd (upd H2 t (.tup [V.ref q, .ref m])) d (.lst (ys ++ [.ref t]))) a (.ins CV dx (putF "_moment" (V.ref mm) (liF rv m d u)))) u = some (.lst xs) := by rw [upd_ne nau.symm, upd_ne hdu.symm]; exact s3 _ _ hd'
      have hu4 : (upd (upd (upd H2 t (.tup [V.ref q, .ref m])) d (.lst (ys ++ [.ref t]))) a (.ins CV dx (putF "_moment" (V.ref mm) (liF rv m d u)))) d = some (.lst (ys ++ [.ref t])) := by rw [upd_ne nad.symm]; exact upd_same
      have ha4 : (upd (upd (upd H2 t (.tup [V.ref q, .ref m])) d (.lst (ys ++ [.ref t]))) a (.ins CV dx (putF "_moment" (V.ref mm) (liF rv m d u)))) a = some (.ins CV dx (liF rv mm d u)) := upd_same
      have nta : t ≠ a := (ne_of_none h1' nt).symm
      have ntu : t ≠ d := (ne_of_none h5' nt).symm
      have ht4 : (upd (upd (upd H2 t (.tup [V.ref q, .ref m])) d (.lst (ys ++ [.ref t]))) a (.ins CV dx (putF "_moment" (V.ref mm) (liF rv m d u)))) t = some (.tup [V.ref q, .ref m]) := by rw [upd_ne nta, upd_ne ntu]; exact upd_same
      generalize upd (upd (upd H2 t (.tup [V.ref q, .ref m])) d (.lst (ys ++ [.ref t]))) a (.ins CV dx (putF "_moment" (V.ref mm) (liF rv m d u))) = H4 at k4 hd4 hu4 ha4 ht4
      refine k1 un0 l x0 rfl H4 k4 ⟨dx, mm, rv, ha4, kl_row k4 mv hR h2, kl_mo k4 mv hM g5, steps_app hu4 h6 (fun i v p hv hp => kl_step k4 mv hM (h7 i v p hv hp)) ⟨t, q, m, rfl, ht4, kl_tup k4 mv g4, kl_mo k4 mv hM h3⟩, ⟨xs, hd4, g2, fun i v p hv hp => kl_step k4 mv hM (g6 i v p hv hp)⟩, hdu⟩
end
end Bk
set_option Elab.async false
set_option maxRecDepth 100000
set_option maxHeartbeats 4000000
namespace Bk
open PySem PySem.Spec PyProof.Rows L2 LamX
/-- an operation that takes effect, and the moment behind it -/
def StpO (rl : Nat) (bs : List Bar) (x : Mo) (l : List V) (x' : Mo) : Prop :=
  (∃ am, l = [.str "pour", .int am] ∧ 0 ≤ am ∧ am ≤ 1000000 ∧ x' = nxt rl bs x am) ∨
  (∃ (z : Str) (n : Int) (i : Nat) (b : Bar), l = [.str "scoop", .str z, .int n] ∧ bs[i]? = some b ∧ b.name = z ∧ (reprText z).length ≤ 1000 ∧ 1 ≤ n ∧ n ≤ 1000000000 ∧ x' = scooped x i (takenOf x i n)) ∨
  (∃ (z : Str) (i : Nat) (b : Bar), l = [.str "lock", .str z] ∧ bs[i]? = some b ∧ b.name = z ∧ (reprText z).length ≤ 1000 ∧ x' = turned x i true) ∨
  (∃ (z : Str) (i : Nat) (b : Bar), l = [.str "unlock", .str z] ∧ bs[i]? = some b ∧ b.name = z ∧ (reprText z).length ≤ 1000 ∧ x' = turned x i false)
theorem idx_eq {bs : List Bar} (hnd : (bs.map Bar.name).Nodup) {i j : Nat} {b c : Bar} (hb : bs[i]? = some b) (hc : bs[j]? = some c) (e : c.name = b.name) : j = i := by
  refine nd_ix hnd (x := b.name) ?_ ?_
  · rw [List.getElem?_map, hc]
    exact congrArg some e
  · rw [List.getElem?_map, hb]
    rfl
theorem no_of {bs : List Bar} {i : Nat} {b : Bar} {z : Str} (hb : bs[i]? = some b) (e : b.name = z) : z ∈ bs.map Bar.name := List.mem_map.mpr ⟨b, List.mem_of_getElem? hb, e⟩
section
variable {P : Program} {w : World} {K : PySem.W.Frag} {mg : Str → Option Value} {base : Heap} {CP CR CM CV CN CU CO : Addr}
def spPerform (K : PySem.W.Frag) (CR CM CV CU : Addr) : Sp := fun vs H Q E => ∃ (a d u q : Addr) (rain : List Int) (bs : List Bar) (x : Mo) (dn un : List (List V × Mo)) (l : List V), vs = [.ref a, .ref q] ∧ LiAt K CR CM CV H a d u rain bs x dn un ∧ SqT K H q l ∧ RowOk rain bs ∧ 1 ≤ bs.length ∧ (bs.map Bar.name).Nodup ∧ MoOk bs x ∧ dn.length ≤ 1000 ∧
  ((∃ x', StpO rain.length bs x l x' ∧ ∀ H' u' v, KeepL [a, d] H H' → H u' = none → LiAt K CR CM CV H' a d u' rain bs x' (dn ++ [(l, x)]) [] → Q v H') ∨
    (∃ z : Str, l = [.str "lock", .str z] ∧ z ∉ bs.map Bar.name ∧ (reprText z).length ≤ 1000 ∧ ∀ dd H', Same H H' → H dd = none → H' dd = some (.xd [("name", .str z)]) → E (.ref CU) (some dd) H'))
theorem ok_perform {f : Addr} {fd : FuncData} (F : Fun K "_perform" "LiveRow._perform" s_LiveRow_perform f fd) (T : Txt K mg CP CR) (x_LiveRow_pour : CalleeMX P w K mg base CV "pour" 6 (spPourG K CR CM CV CN)) (x_LiveRow_scoop : CalleeMX P w K mg base CV "scoop" 6 (spScoopG K CR CM CV CN CU))
    (x_LiveRow_lock : CalleeMX P w K mg base CV "lock" 7 (spLock K CR CM CV CU "lock" true)) (x_LiveRow_unlock : CalleeMX P w K mg base CV "unlock" 7 (spLock K CR CM CV CU "unlock" false)) : FnOk P w K mg base (L2.CX P w) 8 f fd P_LiveRow_perform (spPerform K CR CM CV CU) := by
  refine F.okX sc_LiveRow_perform (fun vs H Q E h => ?_) (fun cdv A outer s H vs Q E hr h => ?_)
  · obtain ⟨a, d, u, q, rain, bs, x, dn, un, l, rfl, _⟩ := h
    rfl
  · obtain ⟨a, d, u, q, rain, bs, x, dn, un, l, rfl, hli, hq, ok, hb1, hnd, mok, hdl, hk⟩ := h
    have tk : Takes (cxOf (L2.CX P w) P w K mg base N_LiveRow_perform "LiveRow._perform" (defScope s_LiveRow_perform) f cdv A outer s H E) (fun cls d _ H => E cls d H) := takes_of rfl rfl rfl rfl
    have hcn := ok.cnt
    obtain ⟨dx, m, rv, h1, _⟩ := id hli
    have ne : ∀ {a b : Str}, a ≠ b → decide (V.str a = V.str b) = false := fun h => decide_eq_false fun z => h (V.str.inj z)
    have tt : ∀ (a : Str), decide (V.str a = V.str a) = true := fun a => decide_eq_true rfl
    refine ⟨_, (pss_cons (ps_set (i := 2) sc_LiveRow_perform.nd rfl (.inl rfl) (pe_ix ix_tup (pv 1) pe_int (fun _ _ => rfl)))
      (pss_cons (ps_if (pt_cmpR op_eq (pv 2) pe_str (nomark _))
        (pss_one (ps_ret (pe_methFX x_LiveRow_pour tk (hr.mono (by decide)) (pv 0) (pa_cons (pe_ix ix_tup (pv 1) pe_int (fun _ _ => rfl)) pa_nil))))
        pss_nil)
      (pss_cons (ps_if (pt_cmpR op_eq (pv 2) pe_str (nomark _))
        (pss_one (ps_ret (pe_methFX x_LiveRow_scoop tk (hr.mono (by decide)) (pv 0) (pa_cons (pe_ix ix_tup (pv 1) pe_int (fun _ _ => rfl)) (pa_cons (pe_ix ix_tup (pv 1) pe_int (fun _ _ => rfl)) pa_nil)))))
        pss_nil)
      (pss_cons (ps_if (pt_cmpR op_eq (pv 2) pe_str (nomark _))
        (pss_one (ps_ret (pe_methFX x_LiveRow_lock tk (hr.mono (by decide)) (pv 0) (pa_cons (pe_ix ix_tup (pv 1) pe_int (fun _ _ => rfl)) pa_nil))))
        pss_nil)
      (pss_one (ps_ret (pe_methFX x_LiveRow_unlock tk (hr.mono (by decide)) (pv 0) (pa_cons (pe_ix ix_tup (pv 1) pe_int (fun _ _ => rfl)) pa_nil)))))))), ?_⟩
    rcases hk with ⟨x', st, k⟩ | ⟨z, rfl, hz, hzr, kx⟩
    · rcases st with ⟨am, rfl, a0, a1, rfl⟩ | ⟨z, n, i, b, rfl, hb, hbz, hzr, n0, n1, rfl⟩ | ⟨z, i, b, rfl, hb, hbz, hzr, rfl⟩ | ⟨z, i, b, rfl, hb, hbz, hzr, rfl⟩
      · refine ⟨_, rfl, q, _, _, _, rfl, rfl, hq, rfl, _, rfl, rfl, _, rfl, iteBT (tt _) ?_⟩
        exact ⟨_, rfl, a, dx, _, rfl, h1, rfl, _, rfl, q, _, _, _, rfl, rfl, hq, rfl, a, d, u, rain, bs, x, dn, un, am, rfl, hli, ok, hb1, mok, hdl, fun _ _ H' u' k' n' l' => k H' u' _ k' n' l', fun h => absurd ⟨a0, a1⟩ h⟩
      · refine ⟨_, rfl, q, _, _, _, rfl, rfl, hq, rfl, _, rfl, rfl, _, rfl, iteBF (ne (by decide +kernel)) ?_⟩
        refine ⟨_, rfl, rfl, _, rfl, iteBT (tt _) ?_⟩
        refine ⟨_, rfl, a, dx, _, rfl, h1, rfl, _, rfl, q, _, _, _, rfl, rfl, hq, rfl, _, rfl, q, _, _, _, rfl, rfl, hq, rfl, a, d, u, rain, bs, x, dn, un, z, n, rfl, hli, hnd, by omega, hzr, mok, hdl, fun j c hc hcz _ _ H' u' k' n' l' => ?_, fun hno => absurd (no_of hb hbz) hno, fun _ hn => absurd ⟨n0, n1⟩ hn⟩
        obtain rfl := idx_eq hnd hb hc (hcz.trans hbz.symm)
        exact k H' u' _ k' n' l'
      · refine ⟨_, rfl, q, _, _, _, rfl, rfl, hq, rfl, _, rfl, rfl, _, rfl, iteBF (ne (by decide +kernel)) ?_⟩
        refine ⟨_, rfl, rfl, _, rfl, iteBF (ne (by decide +kernel)) ?_⟩
        refine ⟨_, rfl, rfl, _, rfl, iteBT (tt _) ?_⟩
        refine ⟨_, rfl, a, dx, _, rfl, h1, rfl, _, rfl, q, _, _, _, rfl, rfl, hq, rfl, a, z, rfl, d, u, rain, bs, x, dn, un, hli, hnd, by omega, hzr, mok, hdl, fun j c hc hcz H' u' k' n' l' => ?_, fun hno => absurd (no_of hb hbz) hno⟩
        obtain rfl := idx_eq hnd hb hc (hcz.trans hbz.symm)
        exact k H' u' _ k' n' l'
      · refine ⟨_, rfl, q, _, _, _, rfl, rfl, hq, rfl, _, rfl, rfl, _, rfl, iteBF (ne (by decide +kernel)) ?_⟩
        refine ⟨_, rfl, rfl, _, rfl, iteBF (ne (by decide +kernel)) ?_⟩
        refine ⟨_, rfl, rfl, _, rfl, iteBF (ne (by decide +kernel)) ?_⟩
        refine ⟨_, rfl, a, dx, _, rfl, h1, rfl, _, rfl, q, _, _, _, rfl, rfl, hq, rfl, a, z, rfl, d, u, rain, bs, x, dn, un, hli, hnd, by omega, hzr, mok, hdl, fun j c hc hcz H' u' k' n' l' => ?_, fun hno => absurd (no_of hb hbz) hno⟩
        obtain rfl := idx_eq hnd hb hc (hcz.trans hbz.symm)
        exact k H' u' _ k' n' l'
    · refine ⟨_, rfl, q, _, _, _, rfl, rfl, hq, rfl, _, rfl, rfl, _, rfl, iteBF (ne (by decide +kernel)) ?_⟩
      refine ⟨_, rfl, rfl, _, rfl, iteBF (ne (by decide +kernel)) ?_⟩
      refine ⟨_, rfl, rfl, _, rfl, iteBT (tt _) ?_⟩
      exact ⟨_, rfl, a, dx, _, rfl, h1, rfl, _, rfl, q, _, _, _, rfl, rfl, hq, rfl, a, z, rfl, d, u, rain, bs, x, dn, un, hli, hnd, by omega, hzr, mok, hdl, fun j c hc hcz => absurd (no_of hc hcz) hz, fun _ dd H' s n0 e => kx dd H' s n0 e⟩
end
end Bk
set_option Elab.async false
set_option maxRecDepth 100000
set_option maxHeartbeats 8000000
namespace Bk
open PySem PySem.Spec PyProof.Rows L2 LamX
def stepsO (ls : List (List V)) (xs : Nat → Mo) (i : Nat) : List (List V × Mo) := (List.range i).map fun j => (ls.getD j [], xs j)
theorem stepsO_succ (ls : List (List V)) (xs : Nat → Mo) (i : Nat) : stepsO ls xs (i + 1) = stepsO ls xs i ++ [(ls.getD i [], xs i)] := by
  unfold stepsO
  rw [List.range_succ, List.map_append]
  rfl
def unO (un : List (List V × Mo)) : Nat → List (List V × Mo)
  | 0 => un
  | _ + 1 => []
/-- the first n of the operations take effect one behind the other -/
def RunsO (rl : Nat) (bs : List Bar) (ls : List (List V)) (xs : Nat → Mo) (n : Nat) : Prop := ∀ i, i < n → StpO rl bs (xs i) (ls.getD i []) (xs (i + 1))
section
variable {P : Program} {w : World} {K : PySem.W.Frag} {mg : Str → Option Value} {base : Heap} {CP CR CM CV CN CU CO : Addr}
theorem MoOk.stp {rain : List Int} {bs : List Bar} {x x' : Mo} {l : List V} (ok : RowOk rain bs) (h : MoOk bs x) (s : StpO rain.length bs x l x') : MoOk bs x' := by
  rcases s with ⟨am, _, a0, _, rfl⟩ | ⟨z, n, i, b, _, hb, _, _, n0, _, rfl⟩ | ⟨z, i, b, _, hb, _, _, rfl⟩ | ⟨z, i, b, _, hb, _, _, rfl⟩
  · exact h.nxt ok a0
  · have hi := (List.getElem?_eq_some_iff.mp hb).1
    refine ⟨by unfold scooped; simp [h.hl], h.kl, fun y hy => ?_⟩
    unfold scooped at hy
    rcases List.mem_or_eq_of_mem_set hy with q | q
    · exact h.h0 y q
    · have := h.h0 _ (getD_mem (d := 0) (show i < x.hs.length by rw [h.hl]; exact hi))
      rw [q]
      unfold takenOf
      split <;> omega
  · exact ⟨h.hl, by unfold turned; simp [h.kl], h.h0⟩
  · exact ⟨h.hl, by unfold turned; simp [h.kl], h.h0⟩
theorem MoOk.runs {rain : List Int} {bs : List Bar} {ls : List (List V)} {xs : Nat → Mo} {n : Nat} (ok : RowOk rain bs) (h : MoOk bs (xs 0)) (r : RunsO rain.length bs ls xs n) : ∀ i, i ≤ n → MoOk bs (xs i)
  | 0, _ => h
  | i + 1, hi => MoOk.stp ok (MoOk.runs ok h r i (by omega)) (r i (by omega))
def spApply (K : PySem.W.Frag) (CR CM CV CU CO : Addr) : Sp := fun vs H Q E => ∃ (a d u p : Addr) (rain : List Int) (bs : List Bar) (dn un : List (List V × Mo)) (qs : List V) (ls : List (List V)) (xs : Nat → Mo), vs = [.ref a, .ref p] ∧ LiAt K CR CM CV H a d u rain bs (xs 0) dn un ∧ SqL K H p qs ∧ OpsAt K H qs ls ∧ ls.length ≤ 100 ∧ RowOk rain bs ∧ 1 ≤ bs.length ∧ (bs.map Bar.name).Nodup ∧ MoOk bs (xs 0) ∧ dn.length ≤ 500 ∧
  (((∀ l ∈ ls, opOk l = true) ∧ RunsO rain.length bs ls xs ls.length ∧ ∀ H' d' u' r rs, KeepL [a] H H' → H d' = none → H u' = none → LiAt K CR CM CV H' a d' u' rain bs (xs ls.length) (dn ++ stepsO ls xs ls.length) (unO un ls.length) → H' r = some (.lst rs) → rs.length = ls.length → Q (.ref r) H') ∨
    (∃ (i : Nat) (l : List V), ls[i]? = some l ∧ opOk l = false ∧ (∀ (j : Nat) (l' : List V), j < i → ls[j]? = some l' → opOk l' = true) ∧ ∀ dd H', Same H H' → H dd = none → H' dd = some (.xd [("index", .int (i : Nat))]) → E (.ref CO) (some dd) H') ∨
    ((∀ l ∈ ls, opOk l = true) ∧ ∃ (i : Nat) (z : Str), ls[i]? = some [.str "lock", .str z] ∧ RunsO rain.length bs ls xs i ∧ z ∉ bs.map Bar.name ∧ (reprText z).length ≤ 1000 ∧ ∀ dd H', Same H H' → H dd = none → H' dd = some (.xd [("name", .str z)]) → E (.ref CU) (some dd) H'))
theorem ok_apply {f : Addr} {fd : FuncData} (F : Fun K "apply_all" "LiveRow.apply_all" s_LiveRow_apply_all f fd) (T : Txt K mg CP CR) (TV : Txt_LiveRow K mg CV) (hR : CR ≠ CV) (hM : CM ≠ CV) (x_check_operations : CalleeX P w K mg base "check_operations" 4 (spCheckOps K CO)) (c_LiveRow__init : Maker P w K mg base "LiveRow" CV 4 (spLiveInitG K CR CM CV))
    (c_LiveRow_take_over : CalleeM P w K mg base CV "_take_over" 1 (spTakeOver K CR CM CV)) (x_LiveRow_perform : CalleeMX P w K mg base CV "_perform" 8 (spPerform K CR CM CV CU)) : FnOk P w K mg base (L2.CX P w) 9 f fd P_LiveRow_apply_all (spApply K CR CM CV CU CO) := by
  refine F.okX sc_LiveRow_apply_all (fun vs H Q E h => ?_) (fun cdv A outer s H vs Q E hr h => ?_)
  · obtain ⟨a, d, u, p, rain, bs, dn, un, qs, ls, xs, rfl, _⟩ := h
    rfl
  · obtain ⟨a, d, u, p, rain, bs, dn, un, qs, ls, xs, rfl, hli, hp, hops, hll, ok, hb1, hnd, mok, hdl, hk⟩ := h
    have tk : Takes (cxOf (L2.CX P w) P w K mg base N_LiveRow_apply_all "LiveRow.apply_all" (defScope s_LiveRow_apply_all) f cdv A outer s H E) (fun cls d _ H => E cls d H) := takes_of rfl rfl rfl rfl
    refine ⟨_, (pss_cons (ps_expr (pe_callFX x_check_operations tk (hr.mono (by decide)) (by rfl) (pa_cons (pv 1) pa_nil)))
      (pss_cons (ps_set (i := 2) sc_LiveRow_apply_all.nd rfl (.inr rfl) (pe_makeF c_LiveRow__init (hr.mono (by decide)) (by rfl) (pa_cons (pe_fld (pv 0) rfl) pa_nil)))
      (pss_cons (ps_expr (pe_methF c_LiveRow_take_over (hr.mono (by decide)) (pv 2) (pa_cons (pv 0) pa_nil)))
      (pss_cons (ps_setLcX (i := 3) (own := [("operation", 4)]) (g := gName 4) rfl rfl tk (by rfl) sc_LiveRow_apply_all.nd rfl rfl (sw_true rfl rfl rfl (by decide +kernel)) (pi_list (pv 1)) (blkOk_by (own := [("operation", 4)]) (N := N_LiveRow_apply_all) (sc := defScope s_LiveRow_apply_all) (by decide +kernel)) (fun _ _ _ _ _ => (pg_name (i := 4) sc_LiveRow_apply_all.nd rfl (.inl rfl))) (fun _ _ _ _ _ => pts_nil) (fun _ _ _ _ _ _ _ tk => (pe_methFX x_LiveRow_perform tk (hr.mono (by decide)) (pv 2) (pa_cons (pv 4) pa_nil))))
      (pss_cons (ps_expr (pe_methF c_LiveRow_take_over (hr.mono (by decide)) (pv 0) (pa_cons (pv 2) pa_nil)))
      (pss_one (ps_ret (pv 3)))))))), ?_⟩
    refine ⟨_, rfl, p, qs, ls, rfl, hp, hops, hll, fun hall H1 s1 => ?_, fun i l hi hb hj dd H' s' n0 e => ?_⟩
    · -- which operations take effect
      obtain ⟨N, hN, runs, hfin⟩ : ∃ N, N ≤ ls.length ∧ RunsO rain.length bs ls xs N ∧ ((N = ls.length ∧ ∀ H' d' u' r rs, KeepL [a] H H' → H d' = none → H u' = none → LiAt K CR CM CV H' a d' u' rain bs (xs ls.length) (dn ++ stepsO ls xs ls.length) (unO un ls.length) → H' r = some (.lst rs) → rs.length = ls.length → Q (.ref r) H') ∨
          (∃ z : Str, ls[N]? = some [.str "lock", .str z] ∧ z ∉ bs.map Bar.name ∧ (reprText z).length ≤ 1000 ∧ ∀ dd H', Same H H' → H dd = none → H' dd = some (.xd [("name", .str z)]) → E (.ref CU) (some dd) H')) := by
        rcases hk with ⟨_, r, k⟩ | ⟨i, l, hi, hb, _⟩ | ⟨_, i, z, hz, r, hz2, hz3, kx⟩
        · exact ⟨ls.length, Nat.le_refl _, r, .inl ⟨rfl, k⟩⟩
        · have := hall l (List.mem_of_getElem? hi)
          rw [hb] at this
          cases this
        · exact ⟨i, Nat.le_of_lt (List.getElem?_eq_some_iff.mp hz).1, r, .inr ⟨z, hz, hz2, hz3, kx⟩⟩
      have hli1 := hli.mono s1
      obtain ⟨dx, m, rv, a1, a2, a3, ⟨ds, a4, _⟩, ⟨us, a5, _⟩, _⟩ := id hli1
      -- the row ahead
      refine ⟨_, rfl, a, CV, dx, _, rv, rfl, a1, TV.cl_LiveRow, TV.na_LiveRow_row, rfl, fun b db nb ndb hne => ?_⟩
      have sN := (same_new ndb (o := .own b)).trans (same_new (o := .ins CV db []) (by rw [upd_ne (Ne.symm hne)]; exact nb))
      refine ⟨b, db, rv, rain, bs, rfl, upd_same, a2.mono sN, ok, hb1, fun H2 e0 v0 kp ne0 nv0 hlb => ⟨rfl, ?_⟩⟩
      have s12 : Same H1 H2 := fun c o q => kp _ _ (sN _ _ q) (ne_of_none q nb)
      have nab : a ≠ b := ne_of_none a1 nb
      have hli2 := hli1.mono s12
      obtain ⟨dxb, mb, rvb, b1, _⟩ := id hlb
      refine ⟨_, rfl, b, dxb, _, rfl, b1, rfl, _, rfl, b, e0, v0, a, d, u, rain, bs, _, _, _, _, _, _, rfl, hlb, hli2, nab.symm, fun H3 e v k3 ne nv hlb3 => ?_⟩
      have ne2 : H2 e = none := ne
      have k13 : Same H1 H3 := fun c o q => k3 _ _ (s12 _ _ q) (by simpa using ne_of_none q nb)
      have nb1 : H1 b = none := nb
      have nd1 : ∀ {c : Addr}, H2 c = none → H1 c = none := fun n => s12.free n
      have nee := nd1 ne
      have hp3 := k13.seq (s1.seq hp)
      have hops3 := (hops.mono s1).mono k13
      have hli3 := hli1.mono k13
      have hql := hops.1
      -- what is old stays while the row ahead goes on
      have old : ∀ {H' : Hp}, KeepL [b, e] H3 H' → Same H1 H' := fun {H'} kk c o q => kk _ _ (k13 _ _ q) (by
        simp only [List.mem_cons, List.not_mem_nil, or_false, not_or]
        exact ⟨ne_of_none q nb1, ne_of_none q nee⟩)
      refine ⟨_, rfl, p, rfl, ⟨_, hp3⟩, fun D nD => lc_it walk_list (fun i H' => KeepL [b, e] H3 H' ∧ i ≤ N ∧ ∃ v' rs, LiAt K CR CM CV H' b e v' rain bs (xs i) (dn ++ stepsO ls xs i) (unO un i) ∧ H' D = some (.lst rs) ∧ rs.length = i) ⟨?_, Nat.zero_le _, v, [], ?_, upd_same, rfl⟩ (fun i H' _ q => (old q.1).seq (s1.seq hp)) ?_ ?_⟩
      · exact fun c o q _ => same_new nD c o q
      · have e0 : dn ++ stepsO ls xs 0 = dn := by unfold stepsO; simp
        rw [e0]
        exact hlb3.mono (same_new nD)
      · rintro i x H4 H5 hi ⟨k4, hiN, v', rs, hl4, hD4, hrs⟩ ⟨rfl, hx⟩
        have hli' : ls[i]? = some (ls.getD i []) := by rw [List.getD_eq_getElem?_getD, List.getElem?_eq_getElem (show i < ls.length by omega)]; rfl
        obtain ⟨q, rfl, hq, _⟩ := ((hops.mono s1).mono (old k4)).2 i x _ hx hli'
        obtain ⟨dxb', mb', rvb', b1', b2', b3', ⟨es, b4', _⟩, _⟩ := id hl4
        have nDb : D ≠ b := fun z => by rw [z, b1'] at hD4; cases hD4
        have hlD : D ≠ e := fun z => by
          obtain ⟨_, _, _, _, _, _, ⟨es3, g4, _⟩, _⟩ := hlb3
          rw [z, g4] at nD
          cases nD
        have hlen : (dn ++ stepsO ls xs i).length ≤ 1000 := by
          rw [List.length_append]
          unfold stepsO
          rw [List.length_map, List.length_range]
          omega
        refine ⟨rfl, _, rfl, b, dxb', _, rfl, b1', rfl, _, rfl, b, e, v', q, rain, bs, xs i, dn ++ stepsO ls xs i, unO un i, ls.getD i [], rfl, hl4, hq, ok, hb1, hnd, MoOk.runs ok mok runs i hiN, hlen, ?_⟩
        by_cases hlt : i < N
        · refine .inl ⟨xs (i + 1), runs i hlt, fun H6 v6 r k6 nv6 hl6 => ?_⟩
          have hD6 : H6 D = some (.lst rs) := k6 _ _ hD4 (by simp [nDb, hlD])
          have sD : KeepL [D] H6 (upd H6 D (.lst (rs ++ [r]))) := fun c o q n => by rw [upd_ne (by simpa using n)]; exact q
          have mvD : MvL CV H6 [D] := fun c hc => by rw [List.mem_singleton.mp hc]; exact .inl ⟨_, hD6⟩
          obtain ⟨dx6, m6, rv6, c1, c2, c3, ⟨e6s, c4, _⟩, ⟨v6s, c5, _⟩, _⟩ := id hl6
          have n6v : v6 ≠ D := fun z => by rw [z, hD4] at nv6; cases nv6
          refine ⟨rs, hD6, by rw [hrs]; exact Nat.lt_of_le_of_lt (by omega : i ≤ 100) (by decide), fun c o q n => ?_, hlt, v6, rs ++ [r], ?_, upd_same, by rw [List.length_append, hrs]; rfl⟩
          · rw [upd_ne (ne_of_none q nD)]
            exact k6 _ _ (k4 _ _ q n) n
          · rw [stepsO_succ, ← List.append_assoc]
            exact kl_li sD mvD hR hM (by simpa using nDb.symm) (by simpa using hlD.symm) (by simpa using n6v) hl6
        · have hiN' : i = N := by omega
          subst hiN'
          rcases hfin with ⟨hlen', _⟩ | ⟨z, hz, hz2, hz3, kx⟩
          · omega
          · have ez : ls.getD i [] = [.str "lock", .str z] := by rw [List.getD_eq_getElem?_getD, hz]; rfl
            rw [ez]
            refine .inr ⟨z, rfl, hz2, hz3, fun dd H6 s6 ndd hdd => ?_⟩
            have s16 := (old k4).trans s6
            refine kx dd H6 (s1.trans s16) ?_ hdd
            exact s1.free ((old k4).free ndd)
      · rintro H4 ⟨k4, hiN, v', rs, hl4, hD4, hrs⟩
        rcases hfin with ⟨hlen', k⟩ | ⟨z, hz, _⟩
        · have hqN : qs.length = ls.length := hql
          rw [hqN] at hl4 hrs
          have hli4 := hli1.mono (old k4)
          obtain ⟨dx4, m4, rv4, g1, _⟩ := id hli4
          refine ⟨_, rfl, a, dx4, _, rfl, g1, rfl, _, rfl, a, d, u, b, e, v', rain, bs, _, _, _, _, _, _, rfl, hli4, hl4, nab, fun H5 d' u' k5 nd' nu' hli5 => ⟨_, rfl, ?_⟩⟩
          have hDa : D ≠ a := fun z => by rw [z, (old k4) _ _ a1] at hD4; cases hD4
          have s04 : Same H H4 := s1.trans (old k4)
          exact k H5 d' u' D rs (fun c o q n => k5 _ _ (s04 _ _ q) n) (s04.free nd') (s04.free nu') hli5 (k5 _ _ hD4 (by simpa using hDa)) hrs
        · have := (List.getElem?_eq_some_iff.mp hz).1
          omega
    · rcases hk with ⟨hall, _⟩ | ⟨i', l', hi', hb', hj', kx⟩ | ⟨hall, _⟩
      · have := hall l (List.mem_of_getElem? hi)
        rw [hb] at this
        cases this
      · have : i = i' := by
          rcases Nat.lt_trichotomy i i' with h | h | h
          · have := hj' i l h hi
            rw [hb] at this
            cases this
          · exact h
          · have := hj i' l' h hi'
            rw [hb'] at this
            cases this
        subst this
        exact kx dd H' s' n0 e
      · have := hall l (List.mem_of_getElem? hi)
        rw [hb] at this
        cases this
end
end Bk
set_option Elab.async false
set_option maxRecDepth 100000
set_option maxHeartbeats 4000000
namespace Bk
open PySem PySem.Spec PyProof.Rows L2 LamX
section
variable {P : Program} {w : World} {K : PySem.W.Frag} {mg : Str → Option Value} {base : Heap} {CP CR CM CV CN CU CO : Addr}
def spReplay (K : PySem.W.Frag) (CR CM CV CU CO : Addr) : Sp := fun vs H Q E => ∃ (v : V) (rain : List Int) (bs : List Bar) (qs : List V) (ls : List (List V)) (xs : Nat → Mo), vs = .ref CV :: v :: qs ∧ RowAt K CR H v rain bs ∧ OpsAt K H qs ls ∧ ls.length ≤ 100 ∧ RowOk rain bs ∧ 1 ≤ bs.length ∧ (bs.map Bar.name).Nodup ∧ xs 0 = mo0 bs.length ∧
  (((∀ l ∈ ls, opOk l = true) ∧ RunsO rain.length bs ls xs ls.length ∧ ∀ H' a d u, Same H H' → H a = none → H d = none → H u = none → LiAt K CR CM CV H' a d u rain bs (xs ls.length) (stepsO ls xs ls.length) [] → Q (.ref a) H') ∨
    (∃ (i : Nat) (l : List V), ls[i]? = some l ∧ opOk l = false ∧ (∀ (j : Nat) (l' : List V), j < i → ls[j]? = some l' → opOk l' = true) ∧ ∀ dd H', Same H H' → H dd = none → H' dd = some (.xd [("index", .int (i : Nat))]) → E (.ref CO) (some dd) H'))
theorem ok_replay {f : Addr} {fd : FuncData} (F : Fun K "replay" "LiveRow.replay" s_LiveRow_replay f fd) (T : Txt K mg CP CR) (TV : Txt_LiveRow K mg CV) (c_LiveRow__init : Maker P w K mg base "LiveRow" CV 4 (spLiveInitG K CR CM CV)) (x_LiveRow_apply_all : CalleeMX P w K mg base CV "apply_all" 9 (spApply K CR CM CV CU CO)) : FnR P w K mg base (L2.CX P w) 11 f (spReplay K CR CM CV CU CO) := by
  obtain ⟨oc, od, kV, doc, pm, an, cdv, ct, osl, rfl, lk, hcd⟩ := F.ex
  refine FnR.imp (StX.fn_star (ps := ["cls", "row"]) (pv := "operations") (k := 10) (sp := fun vs H Q E => ∃ (v : V) (q : Addr) (rain : List Int) (bs : List Bar) (qs : List V) (ls : List (List V)) (xs : Nat → Mo), vs = [.ref CV, v, .ref q] ∧ SqT K H q qs ∧ RowAt K CR H v rain bs ∧ OpsAt K H qs ls ∧ ls.length ≤ 100 ∧ RowOk rain bs ∧ 1 ≤ bs.length ∧ (bs.map Bar.name).Nodup ∧ xs 0 = mo0 bs.length ∧
      (((∀ l ∈ ls, opOk l = true) ∧ RunsO rain.length bs ls xs ls.length ∧ ∀ H' a d u, Same H H' → H a = none → H d = none → H u = none → LiAt K CR CM CV H' a d u rain bs (xs ls.length) (stepsO ls xs ls.length) [] → Q (.ref a) H') ∨
        (∃ (i : Nat) (l : List V), ls[i]? = some l ∧ opOk l = false ∧ (∀ (j : Nat) (l' : List V), j < i → ls[j]? = some l' → opOk l' = true) ∧ ∀ dd H', Same H H' → H dd = none → H' dd = some (.xd [("index", .int (i : Nat))]) → E (.ref CO) (some dd) H')))
    lk hcd sc_LiveRow_replay StX.cxUp (StX.bind_star2 (B := fun us => bindArgs (PySem.W.fnOf "replay" "LiveRow.replay" (defArgs s_LiveRow_replay) (defBody s_LiveRow_replay) (defScope s_LiveRow_replay) .none kV doc pm an cdv ct) ⟨us, []⟩) (p1 := "cls") (p2 := "row") (pv := "operations") (fun a b => rfl) (fun a b r rs => rfl)) ?_) ?_
  · rintro A outer s H vs Q E hr ⟨v, q, rain, bs, qs, ls, xs, rfl, hq, hrow, hops, hll, ok, hb1, hnd, hx0, hk⟩
    have tk : Takes (cxOf (L2.CX P w) P w K mg base N_LiveRow_replay "LiveRow.replay" (defScope s_LiveRow_replay) f cdv A outer s H E) (fun cls d _ H => E cls d H) := takes_of rfl rfl rfl rfl
    refine ⟨_, (pss_cons (ps_set (i := 3) sc_LiveRow_replay.nd rfl (.inl rfl) (pe_makeL (i := 0) c_LiveRow__init (hr.mono (by decide)) rfl (.inl rfl) (pa_cons (pv 1) pa_nil)))
      (pss_cons (ps_expr (pe_methFX x_LiveRow_apply_all tk (hr.mono (by decide)) (pv 3) (pa_cons (pe_callTy call_list_of (by rfl) T.n_list bt_list (pa_cons (pv 2) pa_nil)) pa_nil)))
      (pss_one (ps_ret (pv 3))))), ?_⟩
    refine ⟨rfl, _, rfl, fun a dx na ndx hne => ?_⟩
    have sN := (same_new ndx (o := .own a)).trans (same_new (o := .ins CV dx []) (by rw [upd_ne (Ne.symm hne)]; exact na))
    refine ⟨a, dx, v, rain, bs, rfl, upd_same, hrow.mono sN, ok, hb1, fun H1 d u kp nd nu hli => ⟨rfl, ?_⟩⟩
    have s1 : Same H H1 := fun c o e => kp _ _ (sN _ _ e) (ne_of_none e na)
    obtain ⟨dx1, m1, rv1, a1, _⟩ := id hli
    refine ⟨_, rfl, a, dx1, _, rfl, a1, rfl, _, rfl, q, _, rfl, .inr (same_t s1 hq), fun p np => ?_⟩
    have s2 := same_new (o := .lst qs) np
    have s12 := s1.trans s2
    have hli2 := hli.mono s2
    rw [← hx0] at hli2
    refine ⟨a, d, u, p, rain, bs, [], [], qs, ls, xs, rfl, hli2, SqL.of upd_same, hops.mono s12, hll, ok, hb1, hnd, by rw [hx0]; exact mo0_ok bs, by decide, ?_⟩
    have nd0 : H d = none := sN.free nd
    have nu0 : H u = none := sN.free nu
    rcases hk with ⟨hall, runs, k⟩ | ⟨i, l, hi, hb, hj, kx⟩
    · refine .inl ⟨hall, runs, fun H3 d' u' r rs k3 nd' nu' hli3 hr3 hrl => ⟨_, rfl, ?_⟩⟩
      have e0 : ([] : List (List V × Mo)) ++ stepsO ls xs ls.length = stepsO ls xs ls.length := rfl
      have eu : unO [] ls.length = [] := by cases ls.length <;> rfl
      rw [e0, eu] at hli3
      exact k H3 a d' u' (fun c o e => k3 _ _ (s12 _ _ e) (by simpa using ne_of_none e na)) na (s12.free nd') (s12.free nu') hli3
    · exact .inr (.inl ⟨i, l, hi, hb, hj, fun dd H3 s3 ndd hdd => kx dd H3 (s12.trans s3) (s12.free ndd) hdd⟩)
  · rintro vs H Q E ⟨v, rain, bs, qs, ls, xs, rfl, hrow, hops, hll, ok, hb1, hnd, hx0, hk⟩
    refine ⟨[.ref CV, v], qs, rfl, rfl, by rw [hops.1]; exact Nat.le_trans hll (by decide), fun p np => ?_⟩
    have s1 := same_new (o := .tup qs) np
    refine ⟨v, p, rain, bs, qs, ls, xs, rfl, .inl (.inl upd_same), hrow.mono s1, hops.mono s1, hll, ok, hb1, hnd, hx0, ?_⟩
    rcases hk with ⟨hall, runs, k⟩ | ⟨i, l, hi, hb, hj, kx⟩
    · exact .inl ⟨hall, runs, fun H' a d u s na nd nu hl => k H' a d u (s1.trans s) (s1.free na) (s1.free nd) (s1.free nu) hl⟩
    · exact .inr ⟨i, l, hi, hb, hj, fun dd H' s n e => kx dd H' (s1.trans s) (s1.free n) e⟩
end
end Bk
set_option Elab.async false
set_option maxRecDepth 100000
set_option maxHeartbeats 2000000
namespace Bk
open PySem PySem.Spec PyProof.Rows L2 LamX
section
variable {P : Program} {w : World} {K : PySem.W.Frag} {mg : Str → Option Value} {base : Heap} {CP CR CM CV CN CU CO : Addr}
/-- what is told of a live row, at p; none of it stands at one of M -/
def Tol (H : Hp) (M : List Addr) (p : Addr) (bs : List Bar) (x : Mo) (ops : List (List V)) : Prop := ∃ (D S G : Addr) (qs : List V), H p = some (.lst [.int (x.t : Nat), .ref D, .int x.lo, .int x.mi, .ref S, .ref G]) ∧ H D = some (.dK (lvKvs bs x.hs)) ∧ H S = some (.lst ((shutOf bs x.ls bs.length).map V.str)) ∧
  H G = some (.lst qs) ∧ qs.length = ops.length ∧ (∀ (i : Nat) (v : V) (l : List V), qs[i]? = some v → ops[i]? = some l → ∃ q, v = .ref q ∧ H q = some (.tup l)) ∧ p ∉ M ∧ D ∉ M ∧ S ∉ M ∧ G ∉ M
theorem Tol.mono {H H' : Hp} {M : List Addr} {p : Addr} {bs : List Bar} {x : Mo} {ops : List (List V)} (e : Same H H') (h : Tol H M p bs x ops) : Tol H' M p bs x ops := by
  obtain ⟨D, S, G, qs, h1, h2, h3, h4, h5, h6, h7⟩ := h
  exact ⟨D, S, G, qs, e _ _ h1, e _ _ h2, e _ _ h3, e _ _ h4, h5, fun i v l hv hl => by
    obtain ⟨q, e1, e2⟩ := h6 i v l hv hl
    exact ⟨q, e1, e _ _ e2⟩, h7⟩
theorem Tol.monoN {H H' : Hp} {M : List Addr} {p : Addr} {bs : List Bar} {x : Mo} {ops : List (List V)} (e : ExtN H H') (h : Tol H M p bs x ops) : Tol H' M p bs x ops := by
  obtain ⟨D, S, G, qs, h1, h2, h3, h4, h5, h6, h7⟩ := h
  exact ⟨D, S, G, qs, e _ _ h1 (fun _ z => by cases z), e _ _ h2 (fun _ z => by cases z), e _ _ h3 (fun _ z => by cases z), e _ _ h4 (fun _ z => by cases z), h5, fun i v l hv hl => by
    obtain ⟨q, e1, e2⟩ := h6 i v l hv hl
    exact ⟨q, e1, e _ _ e2 (fun _ z => by cases z)⟩, h7⟩
theorem Tol.keep {H H' : Hp} {L M : List Addr} {p : Addr} {bs : List Bar} {x : Mo} {ops : List (List V)} (k : KeepL L H H') (m : MvL CV H L) (s : ∀ b ∈ L, b ∈ M) (h : Tol H M p bs x ops) : Tol H' M p bs x ops := by
  obtain ⟨D, S, G, qs, h1, h2, h3, h4, h5, h6, m1, m2, m3, m4⟩ := h
  exact ⟨D, S, G, qs, k _ _ h1 (fun z => m1 (s _ z)), k _ _ h2 (fun z => m2 (s _ z)), k _ _ h3 (fun z => m3 (s _ z)), k _ _ h4 (fun z => m4 (s _ z)), h5, fun i v l hv hl => by
    obtain ⟨q, e1, e2⟩ := h6 i v l hv hl
    exact ⟨q, e1, kl_tup k m e2⟩, m1, m2, m3, m4⟩
/-- other addresses that may change: those of before, or new ones -/
theorem Tol.newM {H : Hp} {M M' : List Addr} {p : Addr} {bs : List Bar} {x : Mo} {ops : List (List V)} (h : Tol H M p bs x ops) (s : ∀ b ∈ M', b ∈ M ∨ H b = none) : Tol H M' p bs x ops := by
  obtain ⟨D, S, G, qs, h1, h2, h3, h4, h5, h6, m1, m2, m3, m4⟩ := h
  have no : ∀ {b : Addr} {o : HO}, H b = some o → b ∉ M → b ∉ M' := fun e n z => by
    rcases s _ z with q | q
    · exact n q
    · rw [e] at q; cases q
  exact ⟨D, S, G, qs, h1, h2, h3, h4, h5, h6, no h1 m1, no h2 m2, no h3 m3, no h4 m4⟩
theorem out {H : Hp} {M : List Addr} {b : Addr} (h : ∀ b ∈ M, ∃ o, H b = some o) (n : H b = none) : b ∉ M := fun z => by
  obtain ⟨o, e⟩ := h b z
  rw [n] at e
  cases e
def spToldD (K : PySem.W.Frag) (CR CM CV : Addr) : Sp := fun vs H Q _ => ∃ (a d u : Addr) (rain : List Int) (bs : List Bar) (x : Mo) (dn un : List (List V × Mo)), vs = [.ref a] ∧ LiAt K CR CM CV H a d u rain bs x dn un ∧ RowOk rain bs ∧ (bs.map Bar.name).Nodup ∧ MoOk bs x ∧ dn.length ≤ 1000 ∧
  ∀ p H', Same H H' → H p = none → (∀ M : List Addr, (∀ b ∈ M, ∃ o, H b = some o) → Tol H' M p bs x (dn.map (·.1))) → Q (.ref p) H'
theorem ok_toldD {f : Addr} {fd : FuncData} (F : Fun K "_law_told" "_law_told" s_law_told f fd) (T : Txt K mg CP CR) (c_LiveRow_now : CalleeP P w K mg base CV "now" 1 (spNowG K CR CM CV fun x => (x.t : Nat))) (c_LiveRow_lost_water : CalleeP P w K mg base CV "lost_water" 1 (spNowG K CR CM CV Mo.lo)) (c_LiveRow_missed_water : CalleeP P w K mg base CV "missed_water" 1 (spNowG K CR CM CV Mo.mi))
    (c_LiveRow_levels : CalleeP P w K mg base CV "levels" 3 (spLevelsG K CR CM CV)) (c_LiveRow_locked_names : CalleeP P w K mg base CV "locked_names" 3 (spShut K CR CM CV)) (c_LiveRow_history : CalleeP P w K mg base CV "history" 1 (spHist K CR CM CV)) : FnOk P w K mg base CX0 5 f fd P_law_told (spToldD K CR CM CV) := by
  refine F.ok sc_law_told (fun vs H Q E h => ?_) (fun cdv A outer s H vs Q E hr h => ?_)
  · obtain ⟨a, d, u, rain, bs, x, dn, un, rfl, _⟩ := h
    rfl
  · obtain ⟨a, d, u, rain, bs, x, dn, un, rfl, hli, ok, hnd, mok, hl, k⟩ := h
    obtain ⟨dx, m, rv, h1, _⟩ := id hli
    refine ⟨_, (pss_cons (ps_set (i := 1) sc_law_told.nd rfl (.inl rfl) (pe_lst (pa_cons (pe_propF c_LiveRow_now (hr.mono (by decide)) (pv 0) rfl) (pa_cons (pe_propF c_LiveRow_levels (hr.mono (by decide)) (pv 0) rfl) (pa_cons (pe_propF c_LiveRow_lost_water (hr.mono (by decide)) (pv 0) rfl) (pa_cons (pe_propF c_LiveRow_missed_water (hr.mono (by decide)) (pv 0) rfl) pa_nil))))))
      (pss_one (ps_ret (pe_op op_cat (pv 1) (pe_lst (pa_cons (pe_propF c_LiveRow_locked_names (hr.mono (by decide)) (pv 0) rfl) (pa_cons (pe_propF c_LiveRow_history (hr.mono (by decide)) (pv 0) rfl) pa_nil))))))), ?_⟩
    refine ⟨_, rfl, a, dx, _, rfl, h1, a, d, u, rain, bs, x, dn, un, rfl, hli, ?_⟩
    refine ⟨_, rfl, a, dx, _, rfl, h1, a, d, u, rain, bs, x, dn, un, rfl, hli, ok, hnd, mok, fun D H1 s1 nD hD => ?_⟩
    have hli2 := hli.mono s1
    refine ⟨_, rfl, a, dx, _, rfl, s1 _ _ h1, a, d, u, rain, bs, x, dn, un, rfl, hli2, _, rfl, a, dx, _, rfl, s1 _ _ h1, a, d, u, rain, bs, x, dn, un, rfl, hli2, by show 4 ≤ sizeLine; decide, fun p1 np1 => ?_⟩
    have s3 := same_new (o := .lst [V.int (x.t : Nat), .ref D, .int x.lo, .int x.mi]) np1
    have s13 := s1.trans s3
    refine ⟨_, rfl, _, rfl, a, dx, _, rfl, s13 _ _ h1, a, d, u, rain, bs, x, dn, un, rfl, hli.mono s13, ok, mok, fun L2 H4 s4 nL2 hL2 => ?_⟩
    have s14 := s13.trans s4
    refine ⟨_, rfl, a, dx, _, rfl, s14 _ _ h1, a, d, u, rain, bs, x, dn, un, rfl, hli.mono s14, hl, fun L3 qs H5 s5 nL3 hL3 hql hq => ?_⟩
    have s15 := s14.trans s5
    refine ⟨by show 2 ≤ sizeLine; decide, fun p2 np2 => ?_⟩
    have s6 := same_new (o := .lst [V.ref L2, .ref L3]) np2
    refine ⟨p1, p2, _, _, rfl, rfl, ((s4.trans s5).trans s6) _ _ upd_same, upd_same, by show 6 ≤ sizeLine; decide, fun p np => ?_⟩
    have s7 := same_new (o := .lst ([V.int (x.t : Nat), .ref D, .int x.lo, .int x.mi] ++ [V.ref L2, .ref L3])) np
    have s57 := s6.trans s7
    have s27 := (s3.trans (s4.trans s5)).trans s57
    have s17 := s15.trans s57
    refine k p _ s17 ((s15.trans s6).free np) fun M hM => ⟨D, L2, L3, qs, upd_same, s27 _ _ hD, ((s5.trans s57)) _ _ hL2, s57 _ _ hL3, by rw [hql, List.length_map], fun i v l hv hl' => ?_, out hM ((s15.trans s6).free np), out hM nD, out hM (s13.free nL2), out hM (s14.free nL3)⟩
    rw [List.getElem?_map] at hl'
    cases hp : dn[i]? with
    | none => rw [hp] at hl'; cases hl'
    | some p =>
      rw [hp] at hl'
      cases (Option.some.inj hl' : p.1 = l)
      obtain ⟨q, e1, e2⟩ := hq i v p hv hp
      exact ⟨q, e1, (s5.trans s57) _ _ e2⟩
end
end Bk
set_option Elab.async false
set_option maxRecDepth 100000
set_option maxHeartbeats 4000000
namespace Bk
open PySem PySem.Spec PyProof.Rows L2 LamX
theorem bt_sorted : bootBuiltins "sorted" = some (.builtin "sorted") := by decide +kernel
/-- the same values of the same structure, dicts with texts for keys among them -/
def AlkW (K : PySem.W.Frag) (H : Hp) : Nat → V → V → Prop
  | 0, _, _ => False
  | n + 1, x, y => (plainV x = true ∧ x = y) ∨ (∃ (a b : Addr) (xs ys : List V), x = .ref a ∧ y = .ref b ∧ ((H a = some (.lst xs) ∧ H b = some (.lst ys)) ∨ (SqT K H a xs ∧ SqT K H b ys)) ∧ xs.length = ys.length ∧ ys.length ≤ 100000 ∧ ∀ (i : Nat) (u v : V), xs[i]? = some u → ys[i]? = some v → AlkW K H n u v) ∨
    (∃ (a b : Addr) (ks : List (Key × V)) (zs : List Str), x = .ref a ∧ y = .ref b ∧ H a = some (.dK ks) ∧ H b = some (.dK ks) ∧ ks.map (·.1) = zs.map Sum.inr ∧ zs.Nodup ∧ zs.length < 64 ∧ 2 ≤ n ∧ ∀ p ∈ ks, valV ks p.1 = some p.2 ∧ flatB p.2 = true)
theorem AlkW.mono {K : PySem.W.Frag} {H H' : Hp} (s : Same H H') : ∀ {n : Nat} {x y : V}, AlkW K H n x y → AlkW K H' n x y
  | 0, _, _, h => h
  | n + 1, x, y, h => by
    rcases h with h | ⟨a, b, xs, ys, e1, e2, e3, e5, e6, e7⟩ | ⟨a, b, ks, zs, e1, e2, e3, e4, e5⟩
    · exact .inl h
    · exact .inr (.inl ⟨a, b, xs, ys, e1, e2, e3.imp (fun e => ⟨s _ _ e.1, s _ _ e.2⟩) (fun e => ⟨same_t s e.1, same_t s e.2⟩), e5, e6, fun i u v hu hv => AlkW.mono s (e7 i u v hu hv)⟩)
    · exact .inr (.inr ⟨a, b, ks, zs, e1, e2, s _ _ e3, s _ _ e4, e5⟩)
theorem pw_rising : ∀ (l : List Str) (p : Str), PyProof.Rows.risingS p l = true → (p :: l).Pairwise fun a b => a.cps.toList ≤ b.cps.toList
  | [], p, _ => by simp
  | x :: r, p, h => by
    have h' : (!ltCps x.cps.toList p.cps.toList && PyProof.Rows.risingS x r) = true := h
    rw [Bool.and_eq_true] at h'
    obtain ⟨h1, h2⟩ := h'
    have q := pw_rising r x h2
    have px : p.cps.toList ≤ x.cps.toList := by
      rw [PyProof.Rows.ltCps_eq] at h1
      simpa using h1
    refine List.pairwise_cons.mpr ⟨fun y hy => ?_, q⟩
    rcases List.mem_cons.mp hy with rfl | hy
    · exact px
    · exact List.le_trans px (List.rel_of_pairwise_cons q hy)
/-- two sorted orders of the same texts are the same -/
theorem sorted_one {xs ys : List Str} (hp : xs.Perm ys) (hx : sortedS xs = true) (hy : sortedS ys = true) : xs = ys := by
  have pw : ∀ {l : List Str}, sortedS l = true → l.Pairwise fun a b => a.cps.toList ≤ b.cps.toList := fun {l} h => by
    cases l with
    | nil => exact .nil
    | cons x r => exact pw_rising r x h
  refine List.Perm.eq_of_pairwise (fun a b _ _ h1 h2 => ?_) (pw hx) (pw hy) hp
  have e := List.le_antisymm h1 h2
  cases a with
  | mk a => cases b with
    | mk b => exact congrArg Str.mk (Array.toList_inj.mp e)
section
variable {P : Program} {w : World} {K : PySem.W.Frag} {mg : Str → Option Value} {base : Heap} {CP CR : Addr}
def spAlkW (K : PySem.W.Frag) (n : Nat) : Sp := fun vs H Q _ => ∃ (x y : V), vs = [x, y] ∧ AlkW K H n x y ∧ ∀ H', Same H H' → Q (.bl true) H'
theorem ok_alike_lawW {f : Addr} {fd : FuncData} (F : Fun K "_law_alike" "_law_alike" s_law_alike f fd) (T : Txt K mg CP CR) (n_dict : mg "dict" = none) (n_str : mg "str" = none) (n_sorted : mg "sorted" = none) (g : mg "_law_alike" = some (.ref f)) (b : Binds K fd P_law_alike []) : ∀ n : Nat, FnOk P w K mg base CX0 n f fd P_law_alike (spAlkW K n)
  | 0 => ⟨fun vs H Q E h => by obtain ⟨x, y, rfl, _⟩ := h; rfl, fun A outer s H args us vs Q E hr he hb hv hs => by obtain ⟨x, y, _, h, _⟩ := hs; exact h.elim⟩
  | n + 1 => by
    have c_law_alike : Callee P w K mg base "_law_alike" n (spAlkW K n) := ⟨f, fd, P_law_alike, g, F.kp, b, ok_alike_lawW F T n_dict n_str n_sorted g b n⟩
    refine F.ok sc_law_alike (fun vs H Q E h => ?_) (fun cdv A outer s H vs Q E hr h => ?_)
    · obtain ⟨x, y, rfl, _⟩ := h
      rfl
    · obtain ⟨x, y, rfl, hd, k⟩ := h
      refine ⟨_, (pss_cons (ps_if (pt_val (pe_callB call_isi (by rfl) T.n_isinstance bt_isinstance (pa_cons (pv 1) (pa_cons (pe_bltn (v := .ty "dict") (by rfl) n_dict bt_dict rfl) pa_nil))))
        (pss_one (ps_ret (pe_and (pe_callB call_isi (by rfl) T.n_isinstance bt_isinstance (pa_cons (pv 0) (pa_cons (pe_bltn (v := .ty "dict") (by rfl) n_dict bt_dict rfl) pa_nil))) (pe_and (pe_callF c_law_alike (hr.mono (Nat.le_refl _)) (by rfl) (pa_cons (pe_callB (call_sortedD rfl) (by rfl) n_sorted bt_sorted (pa_cons (pv 0) pa_nil)) (pa_cons (pe_callB (call_sortedD rfl) (by rfl) n_sorted bt_sorted (pa_cons (pv 1) pa_nil)) pa_nil))) (pe_one (pe_cmpR (op_eq_dictA hr.units0) (pv 0) (pv 1) (nomark _)))))))
        pss_nil)
      (pss_cons (ps_if (pt_val (pe_callB call_isiT (by rfl) T.n_isinstance bt_isinstance (pa_cons (pv 1) (pa_cons (pe_tup (pa_cons (pe_bltn (v := .ty "tuple") (by rfl) T.n_tuple bt_tuple rfl) (pa_cons (pe_bltn (v := .ty "list") (by rfl) T.n_list bt_list rfl) pa_nil))) pa_nil))))
        (pss_cons (ps_if (PW.pt (pw_or (pt_not (pt_val (pe_callB call_isiT (by rfl) T.n_isinstance bt_isinstance (pa_cons (pv 0) (pa_cons (pe_tup (pa_cons (pe_bltn (v := .ty "tuple") (by rfl) T.n_tuple bt_tuple rfl) (pa_cons (pe_bltn (v := .ty "list") (by rfl) T.n_list bt_list rfl) pa_nil))) pa_nil))))) (pw_or1 (pt_cmpR op_ne (pe_callB call_isi (by rfl) T.n_isinstance bt_isinstance (pa_cons (pv 0) (pa_cons (pe_bltn (v := .ty "list") (by rfl) T.n_list bt_list rfl) pa_nil))) (pe_callB call_isi (by rfl) T.n_isinstance bt_isinstance (pa_cons (pv 1) (pa_cons (pe_bltn (v := .ty "list") (by rfl) T.n_list bt_list rfl) pa_nil))) (nomark _)))))
        (pss_one (ps_ret pe_bl))
        pss_nil)
      (pss_cons (ps_if (pt_cmpR op_ne (pe_callB call_len_seq (by rfl) T.n_len bt_len (pa_cons (pv 0) pa_nil)) (pe_callB call_len_seq (by rfl) T.n_len bt_len (pa_cons (pv 1) pa_nil)) (nomark _))
        (pss_one (ps_ret pe_bl))
        pss_nil)
      (pss_one (ps_ret (pe_cmpR (op_eqD hr.units) (pe_lc (own := [("_law_k", 2)]) (g := gName 2) (by rfl) sc_law_alike.nd (pi_range1 (by rfl) T.n_range (pa_cons (pe_callB call_len_seq (by rfl) T.n_len bt_len (pa_cons (pv 1) pa_nil)) pa_nil)) (blkOk_by (own := [("_law_k", 2)]) (N := N_law_alike) (sc := defScope s_law_alike) (by decide +kernel)) (fun _ _ _ _ _ => (pg_name (i := 2) sc_law_alike.nd rfl (.inl rfl))) (fun _ _ _ _ _ => (pts_one (pt_not (pt_val (pe_callF c_law_alike (hr.mono (Nat.le_refl _)) (by rfl) (pa_cons (pe_ix (ixK (K := K) (r := rIx) rfl ix_seq) (pv 0) (pv 2) (fun _ _ => rfl)) (pa_cons (pe_ix (ixK (K := K) (r := rIx) rfl ix_seq) (pv 1) (pv 2) (fun _ _ => rfl)) pa_nil))))))) (fun _ _ _ _ _ => (pv 2))) (pe_lst pa_nil) (nomark _))))))
        pss_nil)
      (pss_cons (ps_if (PW.pt (pw_or (pt_cmpR op_isN (pv 1) pe_non (nomark _)) (pw_or1 (pt_val (pe_callB call_isi (by rfl) T.n_isinstance bt_isinstance (pa_cons (pv 1) (pa_cons (pe_bltn (v := .ty "str") (by rfl) n_str bt_str rfl) pa_nil)))))))
        (pss_one (ps_ret (pe_and (pe_cmpR op_eq (pv 0) (pv 1) (nomark _)) (pe_one (pe_cmpR op_eq (pe_callB call_isi (by rfl) T.n_isinstance bt_isinstance (pa_cons (pv 0) (pa_cons (pe_bltn (v := .ty "str") (by rfl) n_str bt_str rfl) pa_nil))) (pe_callB call_isi (by rfl) T.n_isinstance bt_isinstance (pa_cons (pv 1) (pa_cons (pe_bltn (v := .ty "str") (by rfl) n_str bt_str rfl) pa_nil))) (nomark _))))))
        pss_nil)
      (pss_one (ps_ret (pe_and (pe_callB call_isi (by rfl) T.n_isinstance bt_isinstance (pa_cons (pv 0) (pa_cons (pe_bltn (v := .ty "int") (by rfl) T.n_int bt_int rfl) pa_nil))) (pe_and (pe_cmpR op_eq (pe_callB call_isi (by rfl) T.n_isinstance bt_isinstance (pa_cons (pv 0) (pa_cons (pe_bltn (v := .ty "bool") (by rfl) T.n_bool bt_bool rfl) pa_nil))) (pe_callB call_isi (by rfl) T.n_isinstance bt_isinstance (pa_cons (pv 1) (pa_cons (pe_bltn (v := .ty "bool") (by rfl) T.n_bool bt_bool rfl) pa_nil))) (nomark _)) (pe_one (pe_cmpR op_eq (pv 0) (pv 1) (nomark _)))))))))), ?_⟩
      rcases hd with ⟨px, rfl⟩ | ⟨a, b', xs, ys, rfl, rfl, hab, lx, ll, dx⟩ | ⟨a, b', ks, zs, rfl, rfl, ea, eb, ek, nd, l64, n2, hk⟩
      · -- plain
        cases x with
        | int i =>
          refine ⟨_, rfl, .int i, _, _, _, false, rfl, .ty _, .base (.int i), kit_ty (by decide +kernel), _, rfl, iteF ?_⟩
          refine ⟨_, rfl, by show 2 ≤ sizeLine; decide, fun tp ntp => ?_⟩
          have s1 := same_new (o := .tup [V.ty "tuple", V.ty "list"]) ntp
          obtain ⟨ty, y1, y2, y3, y4, y5⟩ := (kind_int (K := K) (H := upd H tp (.tup [V.ty "tuple", V.ty "list"])) i).ex
          refine ⟨.int i, tp, _, _, _, false, rfl, upd_same, .cons (.ty _) (.cons (.ty _) .nil), y1, y2, _, rfl, iteF ?_⟩
          refine ⟨_, rfl, rfl, _, rfl, iteF ⟨_, rfl, .int i, _, _, _, false, rfl, .ty _, .base (.int i), kit_ty (by decide +kernel), _, rfl, iteF ?_⟩⟩
          refine ⟨_, rfl, .int i, _, _, _, true, rfl, .ty _, y1, y5, _, rfl, iteT ?_⟩
          refine ⟨_, rfl, .int i, _, _, _, false, rfl, .ty _, y1, y4, _, rfl, .int i, _, _, _, false, rfl, .ty _, y1, y4, rfl, _, rfl, iteBT (decide_eq_true rfl) ?_⟩
          refine ⟨_, rfl, _, rfl, rfl, ?_⟩
          rw [decide_eq_true rfl]
          exact k _ s1
        | bl i =>
          refine ⟨_, rfl, .bl i, _, _, _, false, rfl, .ty _, .base (.bl i), kit_ty (by decide +kernel), _, rfl, iteF ?_⟩
          refine ⟨_, rfl, by show 2 ≤ sizeLine; decide, fun tp ntp => ?_⟩
          have s1 := same_new (o := .tup [V.ty "tuple", V.ty "list"]) ntp
          obtain ⟨ty, y1, y2, y3, y4, y5⟩ := (kind_bl (K := K) (H := upd H tp (.tup [V.ty "tuple", V.ty "list"])) i).ex
          refine ⟨.bl i, tp, _, _, _, false, rfl, upd_same, .cons (.ty _) (.cons (.ty _) .nil), y1, y2, _, rfl, iteF ?_⟩
          refine ⟨_, rfl, rfl, _, rfl, iteF ⟨_, rfl, .bl i, _, _, _, false, rfl, .ty _, .base (.bl i), kit_ty (by decide +kernel), _, rfl, iteF ?_⟩⟩
          refine ⟨_, rfl, .bl i, _, _, _, true, rfl, .ty _, y1, y5, _, rfl, iteT ?_⟩
          refine ⟨_, rfl, .bl i, _, _, _, true, rfl, .ty _, y1, y4, _, rfl, .bl i, _, _, _, true, rfl, .ty _, y1, y4, rfl, _, rfl, iteBT (decide_eq_true rfl) ?_⟩
          refine ⟨_, rfl, _, rfl, rfl, ?_⟩
          rw [decide_eq_true rfl]
          exact k _ s1
        | str i =>
          refine ⟨_, rfl, .str i, _, _, _, false, rfl, .ty _, .base (.str i), kit_ty (by decide +kernel), _, rfl, iteF ?_⟩
          refine ⟨_, rfl, by show 2 ≤ sizeLine; decide, fun tp ntp => ?_⟩
          have s1 := same_new (o := .tup [V.ty "tuple", V.ty "list"]) ntp
          obtain ⟨ty, y1, y2, y3, y4, y5⟩ := (kind_str (K := K) (H := upd H tp (.tup [V.ty "tuple", V.ty "list"])) i).ex
          refine ⟨.str i, tp, _, _, _, false, rfl, upd_same, .cons (.ty _) (.cons (.ty _) .nil), y1, y2, _, rfl, iteF ?_⟩
          refine ⟨_, rfl, rfl, _, rfl, iteF ⟨_, rfl, .str i, _, _, _, true, rfl, .ty _, .base (.str i), kit_ty (by decide +kernel), _, rfl, iteT ?_⟩⟩
          refine ⟨_, rfl, _, rfl, rfl, _, rfl, iteBT (decide_eq_true rfl) ?_⟩
          refine ⟨_, rfl, .str i, _, _, _, true, rfl, .ty _, .base (.str i), kit_ty (by decide +kernel), _, rfl, .str i, _, _, _, true, rfl, .ty _, .base (.str i), kit_ty (by decide +kernel), rfl, ?_⟩
          rw [decide_eq_true rfl]
          exact k _ s1
        | non =>
          refine ⟨_, rfl, .non, _, _, _, false, rfl, .ty _, .base .non, kit_ty (by decide +kernel), _, rfl, iteF ?_⟩
          refine ⟨_, rfl, by show 2 ≤ sizeLine; decide, fun tp ntp => ?_⟩
          have s1 := same_new (o := .tup [V.ty "tuple", V.ty "list"]) ntp
          obtain ⟨ty, y1, y2, y3, y4, y5⟩ := (kind_non (K := K) (H := upd H tp (.tup [V.ty "tuple", V.ty "list"]))).ex
          refine ⟨.non, tp, _, _, _, false, rfl, upd_same, .cons (.ty _) (.cons (.ty _) .nil), y1, y2, _, rfl, iteF ?_⟩
          refine ⟨_, rfl, rfl, _, rfl, iteT ?_⟩
          refine ⟨_, rfl, _, rfl, rfl, _, rfl, iteBT (decide_eq_true rfl) ?_⟩
          refine ⟨_, rfl, .non, _, _, _, false, rfl, .ty _, .base .non, kit_ty (by decide +kernel), _, rfl, .non, _, _, _, false, rfl, .ty _, .base .non, kit_ty (by decide +kernel), rfl, ?_⟩
          rw [decide_eq_true rfl]
          exact k _ s1
        | _ => cases px
      · have knd : ∀ {H' : Hp}, Same H H' → ∃ l, Kind K H' (.ref a) true l false false ∧ Kind K H' (.ref b') true l false false := fun {H'} e => by
          rcases hab with ⟨h1, h2⟩ | ⟨h1, h2⟩
          · exact ⟨true, kind_lst (e _ _ h1), kind_lst (e _ _ h2)⟩
          · exact ⟨false, kind_tupT (same_t e h1), kind_tupT (same_t e h2)⟩
        have ty0 : ∃ t, TyX K H (.ref b') (.type t) ∧ PySem.W.kitOne K (.type t) (.type "dict") = some false := by
          rcases hab with ⟨h1, h2⟩ | ⟨h1, h2⟩
          · exact ⟨"list", .base (.lst h2), kit_ty (by decide +kernel)⟩
          · exact ⟨"tuple", ty_tupT h2, kit_ty (by decide +kernel)⟩
        obtain ⟨t0, ty1, ty2⟩ := ty0
        refine ⟨_, rfl, .ref b', _, _, _, false, rfl, .ty _, ty1, ty2, _, rfl, iteF ?_⟩
        refine ⟨_, rfl, by show 2 ≤ sizeLine; decide, fun tp ntp => ?_⟩
        have s1 := same_new (o := .tup [V.ty "tuple", V.ty "list"]) ntp
        obtain ⟨l, _, ⟨ty, y1, y2, _⟩⟩ := knd s1
        refine ⟨_, tp, _, _, _, true, rfl, upd_same, .cons (.ty _) (.cons (.ty _) .nil), y1, y2, _, rfl, iteT ?_⟩
        refine ⟨_, rfl, by show 2 ≤ sizeLine; decide, fun tp2 ntp2 => ?_⟩
        have s2 := s1.trans (same_new (o := .tup [V.ty "tuple", V.ty "list"]) ntp2)
        obtain ⟨l2, ⟨tx, x1, x2, x3, _⟩, ⟨ty', z1, z2, z3, _⟩⟩ := knd s2
        refine ⟨_, tp2, _, _, _, true, rfl, upd_same, .cons (.ty _) (.cons (.ty _) .nil), x1, x2, _, rfl, iteF ?_⟩
        refine ⟨_, rfl, _, _, _, _, l2, rfl, .ty _, x1, x3, _, rfl, _, _, _, _, l2, rfl, .ty _, z1, z3, by cases l2 <;> rfl, _, rfl, iteBF (by simp) ?_⟩
        have len : ∀ {H' : Hp}, Same H H' → (SqL K H' a xs ∨ SqT K H' a xs) ∧ (SqL K H' b' ys ∨ SqT K H' b' ys) := fun {H'} e => by
          rcases hab with ⟨h1, h2⟩ | ⟨h1, h2⟩
          · exact ⟨.inl (SqL.of (e _ _ h1)), .inl (SqL.of (e _ _ h2))⟩
          · exact ⟨.inr (same_t e h1), .inr (same_t e h2)⟩
        refine ⟨_, rfl, a, xs, rfl, (len s2).1, _, rfl, b', ys, rfl, (len s2).2, rfl, _, rfl, iteBF (by rw [lx]; simp) ?_⟩
        refine ⟨_, rfl, b', ys, rfl, (len s2).2, _, rfl, by omega, by omega, fun D nD => lc_it walk_range (fun i H' => Same (upd (upd H tp (.tup [V.ty "tuple", V.ty "list"])) tp2 (.tup [V.ty "tuple", V.ty "list"])) H' ∧ H' D = some (.lst [])) ⟨same_new nD, upd_same⟩ (fun i H' _ p => trivial) ?_ ?_⟩
        · rintro i x H1 H2 hi ⟨s3, e3⟩ ⟨rfl, rfl⟩
          refine ⟨rfl, ?_⟩
          have hi' : i < ys.length := by omega
          have s4 := s2.trans s3
          obtain ⟨vx, hvx⟩ : ∃ v, xs[i]? = some v := ⟨_, List.getElem?_eq_getElem (by omega)⟩
          obtain ⟨vy, hvy⟩ : ∃ v, ys[i]? = some v := ⟨_, List.getElem?_eq_getElem (by omega)⟩
          have ka := (dx i vx vy hvx hvy).mono s4
          rcases hab with ⟨h1, h2⟩ | ⟨h1, h2⟩
          · refine ⟨_, rfl, _, rfl, .inl ⟨a, xs, _, vx, rfl, rfl, SqL.of (s4 _ _ h1), at_of (j := i) (by omega) hvx, ?_⟩⟩
            refine ⟨_, rfl, _, rfl, .inl ⟨b', ys, _, vy, rfl, rfl, SqL.of (s4 _ _ h2), at_of (j := i) (by omega) hvy, ?_⟩⟩
            exact ⟨vx, vy, rfl, ka, fun H3 s5 => ⟨_, rfl, iteF ⟨s3.trans s5, s5 _ _ e3⟩⟩⟩
          · refine ⟨_, rfl, _, rfl, .inr (.inl ⟨a, xs, _, vx, rfl, rfl, same_t s4 h1, at_of (j := i) (by omega) hvx, ?_⟩)⟩
            refine ⟨_, rfl, _, rfl, .inr (.inl ⟨b', ys, _, vy, rfl, rfl, same_t s4 h2, at_of (j := i) (by omega) hvy, ?_⟩)⟩
            exact ⟨vx, vy, rfl, ka, fun H3 s5 => ⟨_, rfl, iteF ⟨s3.trans s5, s5 _ _ e3⟩⟩⟩
        · rintro H1 ⟨s3, e3⟩
          refine ⟨by decide, fun p np => ⟨.list [], .list [], .lst (SqL.of (same_new np _ _ e3)) .nil, .lst (SqL.of upd_same) .nil, by rfl, by rfl, ?_⟩⟩
          have e : PyData.eqv (.list []) (.list []) = true := by rfl
          rw [e]
          exact k _ ((s2.trans s3).trans (same_new np))
      · refine ⟨_, rfl, .ref b', _, _, _, true, rfl, .ty _, .base (.dK eb), kit_ty (by decide +kernel), _, rfl, iteT ?_⟩
        refine ⟨_, rfl, .ref a, _, _, _, true, rfl, .ty _, .base (.dK ea), kit_ty (by decide +kernel), _, rfl, iteT ?_⟩
        refine ⟨_, rfl, a, ks, zs, rfl, .inl ea, ek, l64, fun us p hp hs np => ?_⟩
        have s1 := same_new (o := .lst (us.map V.str)) np
        refine ⟨_, rfl, b', ks, zs, rfl, .inl (s1 _ _ eb), ek, l64, fun ws q hq ht nq => ?_⟩
        have s2 := same_new (o := .lst (ws.map V.str)) nq
        obtain rfl : us = ws := sorted_one (hp.trans hq.symm) hs ht
        obtain ⟨m, rfl⟩ : ∃ m, n = m + 2 := ⟨n - 2, by omega⟩
        refine ⟨.ref p, .ref q, rfl, .inr (.inl ⟨p, q, _, _, rfl, rfl, .inl ⟨s2 _ _ upd_same, upd_same⟩, rfl, ?_, fun i u v hu hv => ?_⟩), fun H3 s3 => ?_⟩
        · rw [List.length_map, hp.length_eq]
          omega
        · rw [hu] at hv
          cases hv
          rw [List.getElem?_map] at hu
          cases e : us[i]? with
          | none => rw [e] at hu; cases hu
          | some z => rw [e] at hu; cases hu; exact .inl ⟨rfl, rfl⟩
        · have s13 := (s1.trans s2).trans s3
          exact ⟨_, rfl, iteT ⟨_, rfl, _, rfl, a, b', ks, ks, rfl, rfl, s13 _ _ ea, s13 _ _ eb, rfl, hk, k _ s13⟩⟩
/-- a drawn operation -/
def Deed (l : List V) : Prop := (∃ n : Int, 0 ≤ n ∧ n ≤ 8 ∧ l = [.str "pour", .int n]) ∨ (∃ n : Int, 1 ≤ n ∧ n ≤ 9 ∧ l = [.str "scoop", .str "top", .int n]) ∨ l = [.str "lock", .str "top"] ∨ l = [.str "unlock", .str "top"]
def spDeed (K : PySem.W.Frag) : Sp := fun vs H Q _ => ∃ (h l : Addr), vs = [.ref h] ∧ HSt H h l ∧ ∀ (ds : List V) (q : Addr) (H' : Hp), Deed ds → KeepL [h, l] H H' → HSt H' h l → H q = none → H' q = some (.tup ds) → Q (.ref q) H'
theorem ok_deed {f : Addr} {fd : FuncData} (F : Fun K "_law_deed" "_law_deed" s_law_deed f fd) (T : Txt K mg CP CR) (c_law_next : Callee P w K mg base "_law_next" 1 (spNext K)) : FnOk P w K mg base CX0 2 f fd P_law_deed (spDeed K) := by
  refine F.ok sc_law_deed (fun vs H Q E h => ?_) (fun cdv A outer s H vs Q E hr h => ?_)
  · obtain ⟨h, l, rfl, _⟩ := h
    rfl
  · obtain ⟨h, l, rfl, hs, k⟩ := h
    refine ⟨_, (pss_cons (ps_set (i := 1) sc_law_deed.nd rfl (.inl rfl) (pe_callF c_law_next (hr.mono (by decide)) (by rfl) (pa_cons (pv 0) (pa_cons pe_int pa_nil))))
      (pss_cons (ps_if (pt_cmpR op_lt (pv 1) pe_int (nomark _))
        (pss_one (ps_ret (pe_tup (pa_cons pe_str (pa_cons (pe_callF c_law_next (hr.mono (by decide)) (by rfl) (pa_cons (pv 0) (pa_cons pe_int pa_nil))) pa_nil)))))
        pss_nil)
      (pss_one (ps_ret (pe_ifExp (pt_cmpR op_eq (pv 1) pe_int (nomark _)) (pe_tup (pa_cons pe_str (pa_cons pe_str (pa_cons (pe_op op_add pe_int (pe_callF c_law_next (hr.mono (by decide)) (by rfl) (pa_cons (pv 0) (pa_cons pe_int pa_nil)))) pa_nil)))) (pe_tup (pa_cons (pe_ix ix_list (pe_lst (pa_cons pe_str (pa_cons pe_str pa_nil))) (pe_callF c_law_next (hr.mono (by decide)) (by rfl) (pa_cons (pv 0) (pa_cons pe_int pa_nil))) (fun _ _ => rfl)) (pa_cons pe_str pa_nil)))))))), ?_⟩
    refine ⟨_, rfl, h, l, 4, rfl, hs, by decide, by decide, fun z H1 z0 z1 k1 s1 => ?_⟩
    have fr : ∀ {q : Addr} {H' : Hp}, KeepL [h, l] H H' → HSt H' h l → H' q = none → H q = none := fun {q H'} kk ss e => by
      cases e2 : H q with
      | none => rfl
      | some o =>
        have := kk q o e2 (ss.not e)
        rw [e] at this
        cases this
    refine ⟨_, rfl, _, _, rfl, rfl, _, rfl, ?_⟩
    by_cases h2 : z < 2
    · refine iteBT (decide_eq_true h2) ?_
      refine ⟨_, rfl, h, l, 9, rfl, s1, by decide, by decide, fun y H2 y0 y1 k2 s2 => ?_⟩
      refine ⟨by show 2 ≤ sizeLine; decide, fun q nq => ?_⟩
      have sq := same_new (o := .tup [V.str "pour", V.int y]) nq
      exact k [.str "pour", .int y] q _ (.inl ⟨y, y0, by omega, rfl⟩) ((k1.tr k2).tr (.sm sq)) (s2.mono sq) (fr (k1.tr k2) s2 nq) upd_same
    · refine iteBF (by simpa using h2) ?_
      refine ⟨_, rfl, rfl, _, rfl, ?_⟩
      by_cases h3 : z = 2
      · refine iteBT (by simp [h3]) ?_
        refine ⟨_, rfl, h, l, 9, rfl, s1, by decide, by decide, fun y H2 y0 y1 k2 s2 => ⟨_, _, rfl, rfl, ?_⟩⟩
        refine ⟨by show 3 ≤ sizeLine; decide, fun q nq => ?_⟩
        have sq := same_new (o := .tup [V.str "scoop", V.str "top", V.int (1 + y)]) nq
        exact k [.str "scoop", .str "top", .int (1 + y)] q _ (.inr (.inl ⟨1 + y, by omega, by omega, rfl⟩)) ((k1.tr k2).tr (.sm sq)) (s2.mono sq) (fr (k1.tr k2) s2 nq) upd_same
      · refine iteBF (by simpa using h3) ?_
        refine ⟨by show 2 ≤ sizeLine; decide, fun p np => ?_⟩
        have sp := same_new (o := .lst [V.str "lock", V.str "unlock"]) np
        refine ⟨_, rfl, h, l, 2, rfl, s1.mono sp, by decide, by decide, fun y H2 y0 y1 k2 s2 => ?_⟩
        have e2 := k2 _ _ upd_same (s1.not np)
        have kk := (k1.tr (.sm sp)).tr k2
        rcases (show y = 0 ∨ y = 1 by omega) with rfl | rfl
        · refine ⟨p, _, _, .str "lock", rfl, rfl, SqL.of e2, at_of (j := 0) (by decide) rfl, by show 2 ≤ sizeLine; decide, fun q nq => ?_⟩
          have sq := same_new (o := .tup [V.str "lock", V.str "top"]) nq
          exact k _ q _ (.inr (.inr (.inl rfl))) (kk.tr (.sm sq)) (s2.mono sq) (fr kk s2 nq) upd_same
        · refine ⟨p, _, _, .str "unlock", rfl, rfl, SqL.of e2, at_of (j := 1) (by decide) rfl, by show 2 ≤ sizeLine; decide, fun q nq => ?_⟩
          have sq := same_new (o := .tup [V.str "unlock", V.str "top"]) nq
          exact k _ q _ (.inr (.inr (.inr rfl))) (kk.tr (.sm sq)) (s2.mono sq) (fr kk s2 nq) upd_same
end
end Bk
set_option Elab.async false
set_option maxRecDepth 100000
set_option maxHeartbeats 4000000
namespace Bk
open PySem PySem.Spec PyProof.Rows L2 LamX
theorem valV_nd : ∀ {kvs : List (Key × V)}, (kvs.map (·.1)).Nodup → ∀ {p : Key × V}, p ∈ kvs → valV kvs p.1 = some p.2
  | [], _, _, h => by cases h
  | q :: r, nd, p, h => by
    rw [List.map_cons, List.nodup_cons] at nd
    rcases List.mem_cons.mp h with rfl | h
    · exact valV_pos rfl
    · rw [valV_neg (fun e => nd.1 (by rw [e]; exact List.mem_map_of_mem h))]
      exact valV_nd nd.2 h
theorem lv_keys {bs : List Bar} {hs : List Int} : (lvKvs bs hs).map (·.1) = (bs.map Bar.name).map Sum.inr := by
  unfold lvKvs
  rw [List.map_map]
  apply List.ext_getElem
  · simp
  · intro i h1 h2
    simp at h1
    simp [h1]
theorem lv_nd {bs : List Bar} {hs : List Int} (nd : (bs.map Bar.name).Nodup) : ((lvKvs bs hs).map (·.1)).Nodup := by
  rw [lv_keys]
  exact List.Pairwise.map _ (fun a b e z => e (Sum.inr.inj z)) nd
theorem lv_val {bs : List Bar} {hs : List Int} {p : Key × V} (h : p ∈ lvKvs bs hs) : ∃ n : Int, p.2 = .int n := by
  unfold lvKvs at h
  obtain ⟨i, _, rfl⟩ := List.mem_map.mp h
  exact ⟨_, rfl⟩
/-- an operation whose items are plain -/
def PlOp (l : List V) : Prop := l.length ≤ 100000 ∧ ∀ x ∈ l, plainV x = true ∧ ∀ z, x = .str z → PyData.strOk z = true
def datOf : V → PyData
  | .int i => .int i
  | .str z => .str z
  | .bl b => .bool b
  | _ => .none
section
variable {K : PySem.W.Frag} {H : Hp}
theorem dp_plain {x : V} (h : plainV x = true) : Dp K H x (datOf x) := by
  cases x with
  | int i => exact .int i
  | str i => exact .str i
  | bl i => exact .bl i
  | non => exact .non
  | _ => cases h
theorem dp_all : ∀ {l : List V}, (∀ x ∈ l, plainV x = true) → DpAll K H l (l.map datOf)
  | [], _ => .nil
  | x :: r, h => .cons (dp_plain (h x (List.mem_cons_self ..))) (dp_all fun y hy => h y (List.mem_cons_of_mem _ hy))
theorem lay_plain {x : V} (h : plainV x = true) (hs : ∀ z, x = .str z → PyData.strOk z = true) : (datOf x).canLay0 = true ∧ (datOf x).depth ≤ 1 := by
  cases x with
  | int i => exact ⟨rfl, by simp [datOf, PyData.depth]⟩
  | str i => exact ⟨hs i rfl, by simp [datOf, PyData.depth]⟩
  | bl i => exact ⟨rfl, by simp [datOf, PyData.depth]⟩
  | non => exact ⟨rfl, by simp [datOf, PyData.depth]⟩
  | _ => cases h
theorem eqW_pl {n : Nat} {x : V} (h : plainV x = true) (hs : ∀ z, x = .str z → PyData.strOk z = true) : EqW K H (n + 1) x x :=
  .inl ⟨_, dp_plain h, dp_plain h, (lay_plain h hs).1, Nat.le_trans (lay_plain h hs).2 (by decide)⟩
theorem paired_at {α β : Type} {F : α → β → Prop} : ∀ {xs : List α} {ys : List β}, xs.length = ys.length → (∀ (i : Nat) (u : α) (v : β), xs[i]? = some u → ys[i]? = some v → F u v) → Paired F xs ys
  | [], [], _, _ => .nil
  | x :: r, y :: t, hl, h => .cons (h 0 x y rfl rfl) (paired_at (by simpa using hl) fun i u v hu hv => h (i + 1) u v hu hv)
  | [], _ :: _, hl, _ => by simp at hl
  | _ :: _, [], hl, _ => by simp at hl
theorem lay_alld : ∀ {l : List V}, (∀ x ∈ l, plainV x = true ∧ ∀ z, x = .str z → PyData.strOk z = true) → PyData.canLayAll0 (l.map datOf) = true ∧ PyData.depthAll (l.map datOf) ≤ 1
  | [], _ => ⟨rfl, by simp [PyData.depthAll]⟩
  | x :: r, h => by
    obtain ⟨h1, h2⟩ := lay_plain (h x (List.mem_cons_self ..)).1 (h x (List.mem_cons_self ..)).2
    obtain ⟨h3, h4⟩ := lay_alld fun y hy => h y (List.mem_cons_of_mem x hy)
    rw [List.map_cons]
    refine ⟨by show (PyData.canLay0 _ && PyData.canLayAll0 _) = true; rw [h1, h3]; rfl, ?_⟩
    simp only [PyData.depthAll]
    omega
/-- what is told twice is equal -/
theorem tol_eq {M M' : List Addr} {p q : Addr} {bs : List Bar} {x : Mo} {ops : List (List V)} (nd : (bs.map Bar.name).Nodup) (hok : ∀ b ∈ bs, PyData.strOk b.name = true) (hops : ∀ l ∈ ops, PlOp l) (h1 : Tol H M p bs x ops) (h2 : Tol H M' q bs x ops) :
    ∃ xs ys, H p = some (.lst xs) ∧ H q = some (.lst ys) ∧ Paired (EqW K H 5) xs ys := by
  obtain ⟨D, S, G, qs, a1, a2, a3, a4, a5, a6, _⟩ := h1
  obtain ⟨D', S', G', qs', b1, b2, b3, b4, b5, b6, _⟩ := h2
  have pi : ∀ i : Int, EqW K H 5 (.int i) (.int i) := fun i => eqW_pl rfl fun z e => by cases e
  refine ⟨_, _, a1, b1, .cons (pi _) (.cons ?_ (.cons (pi _) (.cons (pi _) (.cons ?_ (.cons ?_ .nil)))))⟩
  · refine .inr (.inr ⟨D, D', _, _, rfl, rfl, a2, b2, rfl, fun r hr => ⟨r.2, valV_nd (lv_nd nd) hr, ?_⟩⟩)
    obtain ⟨n, e⟩ := lv_val hr
    rw [e]
    exact eqW_pl rfl fun z e => by cases e
  · refine .inr (.inl ⟨S, S', _, _, rfl, rfl, SqL.of a3, SqL.of b3, paired_at rfl fun i u v hu hv => ?_⟩)
    rw [hu] at hv
    cases hv
    rw [List.getElem?_map] at hu
    cases e : (shutOf bs x.ls bs.length)[i]? with
    | none => rw [e] at hu; cases hu
    | some z =>
      rw [e] at hu
      cases hu
      refine eqW_pl rfl fun z' e' => ?_
      cases e'
      have hm := List.mem_of_getElem? e
      unfold shutOf at hm
      obtain ⟨j, hj, rfl⟩ := List.mem_map.mp hm
      have hj' := List.mem_range.mp (List.mem_filter.mp hj).1
      exact hok _ (getD_mem hj')
  · refine .inr (.inl ⟨G, G', _, _, rfl, rfl, SqL.of a4, SqL.of b4, paired_at (by rw [a5, b5]) fun i u v hu hv => ?_⟩)
    have hi := (List.getElem?_eq_some_iff.mp hu).1
    have ho : ops[i]? = some ops[i] := List.getElem?_eq_getElem (by omega)
    obtain ⟨g, rfl, e1⟩ := a6 i u _ hu ho
    obtain ⟨g', rfl, e2⟩ := b6 i v _ hv ho
    have pl := hops _ (List.getElem_mem (by omega : i < ops.length))
    have dpa : ∀ {H' : Hp}, DpAll K H' ops[i] (ops[i].map datOf) := dp_all fun x hx => (pl.2 x hx).1
    obtain ⟨c1, c2⟩ := lay_alld pl.2
    exact .inl ⟨.tuple (ops[i].map datOf), .tup (.inl (.inl e1)) dpa, .tup (.inl (.inl e2)) dpa, by simpa only [PyData.canLay0] using c1, by simp only [PyData.depth]; omega⟩
theorem tol_alk {M M' : List Addr} {p q : Addr} {bs : List Bar} {x : Mo} {ops : List (List V)} (nd : (bs.map Bar.name).Nodup) (h4 : bs.length ≤ 4) (ho : ops.length ≤ 1000) (hops : ∀ l ∈ ops, PlOp l) (h1 : Tol H M p bs x ops) (h2 : Tol H M' q bs x ops) : AlkW K H 6 (.ref p) (.ref q) := by
  obtain ⟨D, S, G, qs, a1, a2, a3, a4, a5, a6, _⟩ := h1
  obtain ⟨D', S', G', qs', b1, b2, b3, b4, b5, b6, _⟩ := h2
  have six : ∀ {i : Nat} {u v : V} {e1 e2 e3 e4 e5 e6 f1 f2 f3 f4 f5 f6 : V}, [e1, e2, e3, e4, e5, e6][i]? = some u → [f1, f2, f3, f4, f5, f6][i]? = some v → (u = e1 ∧ v = f1) ∨ (u = e2 ∧ v = f2) ∨ (u = e3 ∧ v = f3) ∨ (u = e4 ∧ v = f4) ∨ (u = e5 ∧ v = f5) ∨ (u = e6 ∧ v = f6) := fun {i} => by
    match i with
    | 0 => intro _ _ _ _ _ _ _ _ _ _ _ _ _ _ h k; cases h; cases k; simp
    | 1 => intro _ _ _ _ _ _ _ _ _ _ _ _ _ _ h k; cases h; cases k; simp
    | 2 => intro _ _ _ _ _ _ _ _ _ _ _ _ _ _ h k; cases h; cases k; simp
    | 3 => intro _ _ _ _ _ _ _ _ _ _ _ _ _ _ h k; cases h; cases k; simp
    | 4 => intro _ _ _ _ _ _ _ _ _ _ _ _ _ _ h k; cases h; cases k; simp
    | 5 => intro _ _ _ _ _ _ _ _ _ _ _ _ _ _ h k; cases h; cases k; simp
    | n + 6 => intro _ _ _ _ _ _ _ _ _ _ _ _ _ _ h; simp at h
  refine .inr (.inl ⟨p, q, _, _, rfl, rfl, .inl ⟨a1, b1⟩, rfl, by show 6 ≤ 100000; decide, fun i u v hu hv => ?_⟩)
  rcases six hu hv with ⟨rfl, rfl⟩ | ⟨rfl, rfl⟩ | ⟨rfl, rfl⟩ | ⟨rfl, rfl⟩ | ⟨rfl, rfl⟩ | ⟨rfl, rfl⟩
  · exact .inl ⟨rfl, rfl⟩
  · refine .inr (.inr ⟨D, D', _, _, rfl, rfl, a2, b2, lv_keys, nd, by rw [List.length_map]; omega, by decide, fun r hr => ⟨valV_nd (lv_nd nd) hr, ?_⟩⟩)
    obtain ⟨n, e⟩ := lv_val hr
    rw [e]
    rfl
  · exact .inl ⟨rfl, rfl⟩
  · exact .inl ⟨rfl, rfl⟩
  · refine .inr (.inl ⟨S, S', _, _, rfl, rfl, .inl ⟨a3, b3⟩, rfl, ?_, fun i u v hu hv => ?_⟩)
    · have := List.length_filter_le (fun i => x.ls.getD i false) (List.range bs.length)
      rw [List.length_range] at this
      unfold shutOf
      rw [List.length_map, List.length_map]
      omega
    · rw [hu] at hv
      cases hv
      rw [List.getElem?_map] at hu
      cases e : (shutOf bs x.ls bs.length)[i]? with
      | none => rw [e] at hu; cases hu
      | some z => rw [e] at hu; cases hu; exact .inl ⟨rfl, rfl⟩
  · refine .inr (.inl ⟨G, G', _, _, rfl, rfl, .inl ⟨a4, b4⟩, by rw [a5, b5], by omega, fun i u v hu hv => ?_⟩)
    have hi := (List.getElem?_eq_some_iff.mp hu).1
    have ho : ops[i]? = some ops[i] := List.getElem?_eq_getElem (by omega)
    obtain ⟨g, rfl, e1⟩ := a6 i u _ hu ho
    obtain ⟨g', rfl, e2⟩ := b6 i v _ hv ho
    have pl := hops _ (List.getElem_mem (by omega : i < ops.length))
    refine .inr (.inl ⟨g, g', _, _, rfl, rfl, .inr ⟨.inl (.inl e1), .inl (.inl e2)⟩, rfl, pl.1, fun j u v hu hv => ?_⟩)
    rw [hu] at hv
    cases hv
    exact .inl ⟨(pl.2 u (List.mem_of_getElem? hu)).1, rfl⟩
end
/-- the undone list: n operations taken back to k -/
def UN (ops : List (List V)) (xs : Nat → Mo) (n k : Nat) : List (List V × Mo) := (List.range (n - k)).map fun j => (ops.getD (n - 1 - j) [], xs (n - j))
theorem UN_step {ops : List (List V)} {xs : Nat → Mo} {n k : Nat} (h : k < n) : UN ops xs n k = UN ops xs n (k + 1) ++ [(ops.getD k [], xs (k + 1))] := by
  unfold UN
  obtain ⟨m, rfl⟩ : ∃ m, n = k + m + 1 := ⟨n - k - 1, by omega⟩
  rw [show k + m + 1 - k = m + 1 by omega, show k + m + 1 - (k + 1) = m by omega, List.range_succ, List.map_append, List.map_singleton]
  rw [show k + m + 1 - 1 - m = k by omega, show k + m + 1 - m = k + 1 by omega]
theorem UN_nil {ops : List (List V)} {xs : Nat → Mo} {n : Nat} : UN ops xs n n = [] := by
  unfold UN
  rw [Nat.sub_self]
  rfl
theorem UN_len {ops : List (List V)} {xs : Nat → Mo} {n k : Nat} : (UN ops xs n k).length = n - k := by
  unfold UN
  rw [List.length_map, List.length_range]
theorem stepsO_fst {ops : List (List V)} {xs : Nat → Mo} {k : Nat} (h : k ≤ ops.length) : (stepsO ops xs k).map (·.1) = ops.take k := by
  unfold stepsO
  apply List.ext_getElem
  · simp; omega
  · intro i h1 h2
    simp at h1 h2
    simp [show i < ops.length by omega]
theorem stepsO_len {ops : List (List V)} {xs : Nat → Mo} {k : Nat} : (stepsO ops xs k).length = k := by
  unfold stepsO
  rw [List.length_map, List.length_range]
theorem stepsO_take {ops : List (List V)} {xs : Nat → Mo} {k : Nat} (h : k ≤ ops.length) : stepsO (ops.take k) xs (ops.take k).length = stepsO ops xs k := by
  unfold stepsO
  rw [List.length_take, Nat.min_eq_left h]
  refine List.map_congr_left fun j hj => ?_
  have := List.mem_range.mp hj
  rw [List.getD_eq_getElem?_getD, List.getD_eq_getElem?_getD, List.getElem?_take, if_pos this]
theorem Deed.pl {l : List V} (h : Deed l) : PlOp l := by
  rcases h with ⟨n, _, _, rfl⟩ | ⟨n, _, _, rfl⟩ | rfl | rfl
  all_goals
    refine ⟨by show _ ≤ 100000; simp only [List.length_cons, List.length_nil]; omega, fun x hx => ?_⟩
    simp only [List.mem_cons, List.not_mem_nil, or_false] at hx
  · rcases hx with rfl | rfl
    · exact ⟨rfl, fun z e => by cases e; decide +kernel⟩
    · exact ⟨rfl, fun z e => by cases e⟩
  · rcases hx with rfl | rfl | rfl
    · exact ⟨rfl, fun z e => by cases e; decide +kernel⟩
    · exact ⟨rfl, fun z e => by cases e; decide +kernel⟩
    · exact ⟨rfl, fun z e => by cases e⟩
  · rcases hx with rfl | rfl
    · exact ⟨rfl, fun z e => by cases e; decide +kernel⟩
    · exact ⟨rfl, fun z e => by cases e; decide +kernel⟩
  · rcases hx with rfl | rfl
    · exact ⟨rfl, fun z e => by cases e; decide +kernel⟩
    · exact ⟨rfl, fun z e => by cases e; decide +kernel⟩
theorem Deed.opd {l : List V} (h : Deed l) : OpD l := by
  rcases h with ⟨n, _, _, rfl⟩ | ⟨n, _, _, rfl⟩ | rfl | rfl
  all_goals exact ⟨by simp only [List.length_cons, List.length_nil]; omega, .inr ⟨_, _, rfl, by decide +kernel⟩⟩
theorem Deed.ok {l : List V} (h : Deed l) : opOk l = true := by
  rcases h with ⟨n, _, _, rfl⟩ | ⟨n, _, _, rfl⟩ | rfl | rfl
  all_goals rfl
theorem top_of {rain : List Int} {bs : List Bar} (pk : PartsOk rain bs) : ∃ b, bs[0]? = some b ∧ b.name = ("top" : Str) := by
  have h0 : 0 < bs.length := pk.pos
  refine ⟨bs[0], List.getElem?_eq_getElem h0, ?_⟩
  have e : (bs.map Bar.name)[0]? = (nm4.take bs.length)[0]? := by rw [pk.nms]
  rw [List.getElem?_map, List.getElem?_eq_getElem h0, List.getElem?_take, if_pos h0] at e
  exact Option.some.inj e
theorem Deed.stp {rain : List Int} {bs : List Bar} (pk : PartsOk rain bs) {l : List V} (h : Deed l) (x : Mo) : ∃ x', StpO rain.length bs x l x' := by
  obtain ⟨b, hb, hn⟩ := top_of pk
  have rp : (reprText "top").length ≤ 1000 := by decide +kernel
  rcases h with ⟨n, n0, n1, rfl⟩ | ⟨n, n0, n1, rfl⟩ | rfl | rfl
  · exact ⟨_, .inl ⟨n, rfl, n0, by omega, rfl⟩⟩
  · exact ⟨_, .inr (.inl ⟨"top", n, 0, b, rfl, hb, hn, rp, n0, by omega, rfl⟩)⟩
  · exact ⟨_, .inr (.inr (.inl ⟨"top", 0, b, rfl, hb, hn, rp, rfl⟩))⟩
  · exact ⟨_, .inr (.inr (.inr ⟨"top", 0, b, rfl, hb, hn, rp, rfl⟩))⟩
theorem names_ok {rain : List Int} {bs : List Bar} (pk : PartsOk rain bs) : ∀ b ∈ bs, PyData.strOk b.name = true := fun b hb => by
  have h1 : ∀ s ∈ nm4, PyData.strOk s = true := by decide +kernel
  have : b.name ∈ bs.map Bar.name := List.mem_map.mpr ⟨b, hb, rfl⟩
  rw [pk.nms] at this
  exact h1 _ (List.mem_of_mem_take this)
end Bk
set_option Elab.async false
set_option maxRecDepth 100000
set_option maxHeartbeats 4000000
namespace Bk
open PySem PySem.Spec PyProof.Rows L2 LamX
section
variable {K : PySem.W.Frag} {CR CM CV : Addr} {L : List Addr} {H H' : Hp}
theorem kl_tabs {T : List (Addr × Str)} (k : KeepL L H H') (m : MvL CV H L) (t : Tabs T H) : Tabs T H' := fun q hq => by
  obtain ⟨ps, h1, h2, h3⟩ := t q hq
  refine ⟨ps, k _ _ h1 (m.no h1 (fun _ z => by cases z) (fun _ _ z => by cases z) fun _ z => by cases z), h2, fun pos cv hc => ?_⟩
  obtain ⟨c, e1, e2⟩ := h3 pos cv hc
  exact ⟨c, e1, k _ _ e2 (m.no e2 (fun _ z => by unfold CodeO at z; cases z) (fun _ _ z => by unfold CodeO at z; cases z) fun _ z => by unfold CodeO at z; cases z)⟩
theorem MoAt.monoN {a : Addr} {x : Mo} (e : ExtN H H') (h : MoAt K CM H a x) : MoAt K CM H' a x := by
  obtain ⟨dx, ha, la, h1, h2, h3⟩ := h
  exact ⟨dx, ha, la, e _ _ h1 (fun _ z => by cases z), sqt_n e h2, sqt_n e h3⟩
theorem StepAt.monoN {v : V} {p : List V × Mo} (e : ExtN H H') (h : StepAt K CM H v p) : StepAt K CM H' v p := by
  obtain ⟨s, q, m, e1, h1, h2, h3⟩ := h
  exact ⟨s, q, m, e1, e _ _ h1 (fun _ z => by cases z), e _ _ h2 (fun _ z => by cases z), h3.monoN e⟩
theorem StepsAt.monoN {d : Addr} {l : List (List V × Mo)} (e : ExtN H H') (h : StepsAt K CM H d l) : StepsAt K CM H' d l := by
  obtain ⟨xs, h1, h2, h3⟩ := h
  exact ⟨xs, e _ _ h1 (fun _ z => by cases z), h2, fun i v p hv hp => (h3 i v p hv hp).monoN e⟩
theorem LiAt.monoN {a d u : Addr} {rain : List Int} {bs : List Bar} {x : Mo} {dn un : List (List V × Mo)} (e : ExtN H H') (h : LiAt K CR CM CV H a d u rain bs x dn un) : LiAt K CR CM CV H' a d u rain bs x dn un := by
  obtain ⟨dx, m, rv, h1, h2, h3, h4, h5, h6⟩ := h
  exact ⟨dx, m, rv, e _ _ h1 (fun _ z => by cases z), h2.monoN e, h3.monoN e, h4.monoN e, h5.monoN e, h6⟩
theorem HSt.monoN {h l : Addr} (e : ExtN H H') (s : HSt H h l) : HSt H' h l := by
  obtain ⟨m, t, cs, h1, h2, h3⟩ := s
  exact ⟨m, t, cs, e _ _ h1 (fun _ z => by cases z), e _ _ h2 (fun _ z => by cases z), h3⟩
theorem HSt.mv {h l : Addr} (s : HSt H h l) : MvL CV H [h, l] := fun b hb => by
  obtain ⟨m, t, cs, h1, h2, h3⟩ := s
  simp only [List.mem_cons, List.not_mem_nil, or_false] at hb
  rcases hb with rfl | rfl
  · exact .inl ⟨_, h1⟩
  · exact .inl ⟨_, h2⟩
theorem HSt.kl {h l : Addr} (k : KeepL L H H') (n1 : h ∉ L) (n2 : l ∉ L) (s : HSt H h l) : HSt H' h l := by
  obtain ⟨m, t, cs, h1, h2, h3⟩ := s
  exact ⟨m, t, cs, k _ _ h1 n1, k _ _ h2 n2, h3⟩
theorem nin2 {b x y : Addr} (h1 : b ≠ x) (h2 : b ≠ y) : b ∉ [x, y] := fun hm => by
  simp only [List.mem_cons, List.not_mem_nil, or_false] at hm
  rcases hm with e | e
  · exact h1 e
  · exact h2 e
end
/-- one moment more -/
def extX (xs : Nat → Mo) (n : Nat) (x' : Mo) : Nat → Mo := fun j => if j ≤ n then xs j else x'
theorem extX_le {xs : Nat → Mo} {n j : Nat} {x' : Mo} (h : j ≤ n) : extX xs n x' j = xs j := if_pos h
theorem extX_new {xs : Nat → Mo} {n : Nat} {x' : Mo} : extX xs n x' (n + 1) = x' := if_neg (by omega)
/-- what was told at each time -/
def Seen (H : Hp) (M : List Addr) (se : Addr) (bs : List Bar) (xs : Nat → Mo) (ops : List (List V)) (n : Nat) : Prop := ∃ ps : List V, H se = some (.lst ps) ∧ ps.length = n + 1 ∧ ∀ (j : Nat) (v : V), ps[j]? = some v → ∃ p, v = .ref p ∧ Tol H M p bs (xs j) (ops.take j)
section
variable {K : PySem.W.Frag} {CR CM CV : Addr} {H H' : Hp} {M : List Addr} {se : Addr} {bs : List Bar} {xs : Nat → Mo} {ops : List (List V)} {n : Nat}
theorem Seen.mono (e : Same H H') (h : Seen H M se bs xs ops n) : Seen H' M se bs xs ops n := by
  obtain ⟨ps, h1, h2, h3⟩ := h
  exact ⟨ps, e _ _ h1, h2, fun j v hv => by
    obtain ⟨p, e1, e2⟩ := h3 j v hv
    exact ⟨p, e1, e2.mono e⟩⟩
theorem Seen.monoN (e : ExtN H H') (h : Seen H M se bs xs ops n) : Seen H' M se bs xs ops n := by
  obtain ⟨ps, h1, h2, h3⟩ := h
  exact ⟨ps, e _ _ h1 (fun _ z => by cases z), h2, fun j v hv => by
    obtain ⟨p, e1, e2⟩ := h3 j v hv
    exact ⟨p, e1, e2.monoN e⟩⟩
theorem Seen.keep {L : List Addr} (k : KeepL L H H') (m : MvL CV H L) (s : ∀ b ∈ L, b ∈ M) (n1 : se ∉ L) (h : Seen H M se bs xs ops n) : Seen H' M se bs xs ops n := by
  obtain ⟨ps, h1, h2, h3⟩ := h
  exact ⟨ps, k _ _ h1 n1, h2, fun j v hv => by
    obtain ⟨p, e1, e2⟩ := h3 j v hv
    exact ⟨p, e1, e2.keep k m s⟩⟩
theorem Seen.newM {M' : List Addr} (s : ∀ b ∈ M', b ∈ M ∨ H b = none) (h : Seen H M se bs xs ops n) : Seen H M' se bs xs ops n := by
  obtain ⟨ps, h1, h2, h3⟩ := h
  exact ⟨ps, h1, h2, fun j v hv => by
    obtain ⟨p, e1, e2⟩ := h3 j v hv
    exact ⟨p, e1, e2.newM s⟩⟩
theorem Seen.at {j : Nat} (hj : j ≤ n) (h : Seen H M se bs xs ops n) : ∃ ps p, H se = some (.lst ps) ∧ ps.length = n + 1 ∧ ps[j]? = some (.ref p) ∧ Tol H M p bs (xs j) (ops.take j) := by
  obtain ⟨ps, h1, h2, h3⟩ := h
  have hv : ps[j]? = some ps[j] := List.getElem?_eq_getElem (by omega)
  obtain ⟨p, e1, e2⟩ := h3 j _ hv
  rw [e1] at hv
  exact ⟨ps, p, h1, h2, hv, e2⟩
/-- a live row of another instance changes -/
theorem Tol.keep1 {a dx C : Addr} {fs : List (Str × V)} {p : Addr} {x : Mo} (k : KeepL [a] H H') (ha : H a = some (.ins C dx fs)) (h : Tol H M p bs x ops) : Tol H' M p bs x ops := by
  obtain ⟨D, S, G, qs, h1, h2, h3, h4, h5, h6, h7⟩ := h
  have no : ∀ {b : Addr} {o : HO}, H b = some o → (∀ C dx fs, o ≠ .ins C dx fs) → H' b = some o := fun e n => k _ _ e fun z => by
    rw [List.mem_singleton.mp z, ha] at e
    exact n _ _ _ (Option.some.inj e).symm
  exact ⟨D, S, G, qs, no h1 (fun _ _ _ z => by cases z), no h2 (fun _ _ _ z => by cases z), no h3 (fun _ _ _ z => by cases z), no h4 (fun _ _ _ z => by cases z), h5, fun i v l hv hl => by
    obtain ⟨q, e1, e2⟩ := h6 i v l hv hl
    exact ⟨q, e1, no e2 (fun _ _ _ z => by cases z)⟩, h7⟩
end
/-- the law's state -/
structure Wd (K : PySem.W.Frag) (CR CM CV : Addr) (Tl : List (Addr × Str)) (H : Hp) (h l v d u se : Addr) (rv : V) (rain : List Int) (bs : List Bar) (x : Mo) (dn un : List (List V × Mo)) (xs : Nat → Mo) (ops : List (List V)) (n : Nat) : Prop where
  hs : HSt H h l
  li : LiAt K CR CM CV H v d u rain bs x dn un
  row : RowAt K CR H rv rain bs
  tab : Tabs Tl H
  seen : Seen H [h, l, v, d, u, se] se bs xs ops n
  n1 : ∀ b ∈ [d, u, se], b ≠ h ∧ b ≠ l
  n2 : se ≠ d ∧ se ≠ u
section
variable {K : PySem.W.Frag} {CR CM CV : Addr} {Tl : List (Addr × Str)} {H H' : Hp} {h l v d u se : Addr} {rv : V} {rain : List Int} {bs : List Bar} {x : Mo} {dn un : List (List V × Mo)} {xs : Nat → Mo} {ops : List (List V)} {n : Nat}
theorem Wd.same (e : Same H H') (W : Wd K CR CM CV Tl H h l v d u se rv rain bs x dn un xs ops n) : Wd K CR CM CV Tl H' h l v d u se rv rain bs x dn un xs ops n :=
  ⟨W.hs.mono e, W.li.mono e, W.row.mono e, W.tab.ext e, W.seen.mono e, W.n1, W.n2⟩
theorem Wd.ext (e : ExtN H H') (t : Tabs Tl H') (W : Wd K CR CM CV Tl H h l v d u se rv rain bs x dn un xs ops n) : Wd K CR CM CV Tl H' h l v d u se rv rain bs x dn un xs ops n :=
  ⟨W.hs.monoN e, W.li.monoN e, W.row.monoN e, t, W.seen.monoN e, W.n1, W.n2⟩
theorem Wd.nhl (W : Wd K CR CM CV Tl H h l v d u se rv rain bs x dn un xs ops n) : v ∉ [h, l] ∧ d ∉ [h, l] ∧ u ∉ [h, l] ∧ se ∉ [h, l] := by
  obtain ⟨m', t', cs', q1, q2, _⟩ := W.hs
  obtain ⟨dx, m, w, h1, _⟩ := W.li
  exact ⟨nin2 (fun e => by rw [e, q1] at h1; cases h1) (fun e => by rw [e, q2] at h1; cases h1), nin2 (W.n1 d (by simp)).1 (W.n1 d (by simp)).2, nin2 (W.n1 u (by simp)).1 (W.n1 u (by simp)).2, nin2 (W.n1 se (by simp)).1 (W.n1 se (by simp)).2⟩
theorem Wd.draw (hR : CR ≠ CV) (hM : CM ≠ CV) (k : KeepL [h, l] H H') (g : HSt H' h l) (W : Wd K CR CM CV Tl H h l v d u se rv rain bs x dn un xs ops n) : Wd K CR CM CV Tl H' h l v d u se rv rain bs x dn un xs ops n := by
  have mv : MvL CV H [h, l] := W.hs.mv
  obtain ⟨a1, a2, a3, a4⟩ := W.nhl
  exact ⟨g, kl_li k mv hR hM a1 a2 a3 W.li, kl_row k mv hR W.row, kl_tabs k mv W.tab, W.seen.keep k mv (fun b hb => by simp only [List.mem_cons, List.not_mem_nil, or_false] at hb ⊢; rcases hb with rfl | rfl <;> simp) a4, W.n1, W.n2⟩
theorem nin3 {b x y z : Addr} (h1 : b ≠ x) (h2 : b ≠ y) (h3 : b ≠ z) : b ∉ [x, y, z] := fun hm => by
  simp only [List.mem_cons, List.not_mem_nil, or_false] at hm
  rcases hm with e | e | e
  · exact h1 e
  · exact h2 e
  · exact h3 e
theorem Wd.ex (W : Wd K CR CM CV Tl H h l v d u se rv rain bs x dn un xs ops n) : ∀ b ∈ [h, l, v, d, u, se], ∃ o, H b = some o := fun b hb => by
  obtain ⟨m', t', cs', q1, q2, _⟩ := W.hs
  obtain ⟨dx, m, w, h1, _, _, ⟨_, h2, _⟩, ⟨_, h3, _⟩, _⟩ := W.li
  obtain ⟨ps, h4, _⟩ := W.seen
  simp only [List.mem_cons, List.not_mem_nil, or_false] at hb
  rcases hb with rfl | rfl | rfl | rfl | rfl | rfl
  · exact ⟨_, q1⟩
  · exact ⟨_, q2⟩
  · exact ⟨_, h1⟩
  · exact ⟨_, h2⟩
  · exact ⟨_, h3⟩
  · exact ⟨_, h4⟩
theorem Wd.live {d' u' : Addr} {x' : Mo} {dn' un' : List (List V × Mo)} (hR : CR ≠ CV) (k : KeepL [v, d, u] H H') (g : LiAt K CR CM CV H' v d' u' rain bs x' dn' un') (ed : d' = d ∨ H d' = none) (eu : u' = u ∨ H u' = none) (W : Wd K CR CM CV Tl H h l v d u se rv rain bs x dn un xs ops n) : Wd K CR CM CV Tl H' h l v d' u' se rv rain bs x' dn' un' xs ops n := by
  have mv : MvL CV H [v, d, u] := W.li.mv
  have ex := W.ex
  obtain ⟨m', t', cs', q1, q2, _⟩ := id W.hs
  obtain ⟨dx, m, w, h1, _⟩ := id W.li
  obtain ⟨ps, h4, _⟩ := id W.seen
  have nv : ∀ {b : Addr} {ys : List V}, H b = some (.lst ys) → b ≠ v := fun e z => by rw [z, h1] at e; cases e
  have nw : ∀ {b y : Addr}, b ∈ [h, l, v, d, u, se] → H y = none → y ≠ b := fun hb e z => by
    obtain ⟨o, eo⟩ := ex _ hb
    rw [z, eo] at e
    cases e
  refine ⟨W.hs.kl k (nin3 (nv q1) (W.n1 d (by simp)).1.symm (W.n1 u (by simp)).1.symm) (nin3 (nv q2) (W.n1 d (by simp)).2.symm (W.n1 u (by simp)).2.symm), g, kl_row k mv hR W.row, kl_tabs k mv W.tab, ?_, ?_, ?_⟩
  · refine Seen.keep (M := [h, l, v, d', u', se] ++ [v, d, u]) k mv (fun b hb => List.mem_append_right _ hb) (nin3 (nv h4) W.n2.1 W.n2.2) (W.seen.newM fun b hb => ?_) |>.newM fun b hb => .inl (List.mem_append_left _ hb)
    simp only [List.cons_append, List.nil_append, List.mem_cons, List.not_mem_nil, or_false] at hb
    rcases hb with rfl | rfl | rfl | rfl | rfl | rfl | rfl | rfl | rfl
    · simp
    · simp
    · simp
    · rcases ed with rfl | e
      · simp
      · exact .inr e
    · rcases eu with rfl | e
      · simp
      · exact .inr e
    · simp
    · simp
    · simp
    · simp
  · intro b hb
    simp only [List.mem_cons, List.not_mem_nil, or_false] at hb
    rcases hb with rfl | rfl | rfl
    · rcases ed with rfl | e
      · exact W.n1 _ (by simp)
      · exact ⟨nw (by simp) e, nw (by simp) e⟩
    · rcases eu with rfl | e
      · exact W.n1 _ (by simp)
      · exact ⟨nw (by simp) e, nw (by simp) e⟩
    · exact W.n1 _ (by simp)
  · constructor
    · rcases ed with rfl | e
      · exact W.n2.1
      · exact (nw (by simp) e).symm
    · rcases eu with rfl | e
      · exact W.n2.2
      · exact (nw (by simp) e).symm
/-- another live row changes -/
theorem Wd.twin {a dx : Addr} {fs : List (Str × V)} (hR : CR ≠ CV) (hM : CM ≠ CV) (k : KeepL [a] H H') (ha : H a = some (.ins CV dx fs)) (na : v ≠ a) (W : Wd K CR CM CV Tl H h l v d u se rv rain bs x dn un xs ops n) : Wd K CR CM CV Tl H' h l v d u se rv rain bs x dn un xs ops n := by
  have mv : MvL CV H [a] := fun b hb => by rw [List.mem_singleton.mp hb]; exact .inr (.inl ⟨_, _, ha⟩)
  obtain ⟨m', t', cs', q1, q2, _⟩ := id W.hs
  obtain ⟨dy, m, w, h1, _, _, ⟨_, h2, _⟩, ⟨_, h3, _⟩, _⟩ := id W.li
  have nl : ∀ {b : Addr} {ys : List V}, H b = some (.lst ys) → b ∉ [a] := fun e z => by rw [List.mem_singleton.mp z, ha] at e; cases e
  refine ⟨W.hs.kl k (nl q1) (nl q2), kl_li k mv hR hM (fun z => na (List.mem_singleton.mp z)) (nl h2) (nl h3) W.li, kl_row k mv hR W.row, kl_tabs k mv W.tab, ?_, W.n1, W.n2⟩
  obtain ⟨ps, g1, g2, g3⟩ := W.seen
  exact ⟨ps, k _ _ g1 (nl g1), g2, fun j v hv => by
    obtain ⟨p, e1, e2⟩ := g3 j v hv
    exact ⟨p, e1, e2.keep1 k ha⟩⟩
/-- one more is told -/
theorem Wd.app {p : Addr} {ps : List V} (hR : CR ≠ CV) (hM : CM ≠ CV) (W : Wd K CR CM CV Tl H h l v d u se rv rain bs x dn un xs ops n) (hps : H se = some (.lst ps)) (hp : Tol H [h, l, v, d, u, se] p bs (xs (n + 1)) (ops.take (n + 1))) : Wd K CR CM CV Tl (upd H se (.lst (ps ++ [.ref p]))) h l v d u se rv rain bs x dn un xs ops (n + 1) := by
  have k : KeepL [se] H (upd H se (.lst (ps ++ [V.ref p]))) := fun b o e nb => by rw [upd_ne (fun z => nb (by rw [z]; exact List.mem_singleton.mpr rfl))]; exact e
  have mv : MvL CV H [se] := fun b hb => by rw [List.mem_singleton.mp hb]; exact .inl ⟨_, hps⟩
  obtain ⟨dy, m, w, h1, _⟩ := id W.li
  have ns : ∀ {b : Addr}, b ≠ se → b ∉ [se] := fun n z => n (List.mem_singleton.mp z)
  refine ⟨W.hs.kl k (ns (W.n1 se (by simp)).1.symm) (ns (W.n1 se (by simp)).2.symm), kl_li k mv hR hM (ns fun e => by rw [e, hps] at h1; cases h1) (ns W.n2.1.symm) (ns W.n2.2.symm) W.li, kl_row k mv hR W.row, kl_tabs k mv W.tab, ?_, W.n1, W.n2⟩
  have sub : ∀ b ∈ [se], b ∈ [h, l, v, d, u, se] := fun b hb => by rw [List.mem_singleton.mp hb]; simp
  obtain ⟨qs, g1, g2, g3⟩ := W.seen
  rw [hps] at g1
  cases g1
  refine ⟨_, upd_same, by rw [List.length_append, g2]; rfl, fun j v hv => ?_⟩
  by_cases hj : j < ps.length
  · rw [List.getElem?_append_left hj] at hv
    obtain ⟨q, e1, e2⟩ := g3 j v hv
    exact ⟨q, e1, e2.keep k mv sub⟩
  · have := (List.getElem?_eq_some_iff.mp hv).1
    rw [List.length_append, List.length_singleton] at this
    obtain rfl : j = ps.length := by omega
    rw [List.getElem?_append_right (Nat.le_refl _), Nat.sub_self] at hv
    cases hv
    rw [g2]
    exact ⟨p, rfl, hp.keep k mv sub⟩
/-- the operations go on -/
theorem Wd.next {x' : Mo} {o : List V} (hn : ops.length = n) (W : Wd K CR CM CV Tl H h l v d u se rv rain bs x dn un xs ops n) : Wd K CR CM CV Tl H h l v d u se rv rain bs x dn un (extX xs n x') (ops ++ [o]) n := by
  refine ⟨W.hs, W.li, W.row, W.tab, ?_, W.n1, W.n2⟩
  obtain ⟨ps, g1, g2, g3⟩ := W.seen
  refine ⟨ps, g1, g2, fun j v hv => ?_⟩
  have hj := (List.getElem?_eq_some_iff.mp hv).1
  obtain ⟨q, e1, e2⟩ := g3 j v hv
  refine ⟨q, e1, ?_⟩
  rw [extX_le (by omega), List.take_append_of_le_length (by omega)]
  exact e2
end
theorem stepsO_app {ops : List (List V)} {xs : Nat → Mo} {x' : Mo} {o : List V} {n : Nat} (hn : ops.length = n) : stepsO (ops ++ [o]) (extX xs n x') (n + 1) = stepsO ops xs n ++ [(o, xs n)] := by
  rw [stepsO_succ]
  congr 1
  · unfold stepsO
    refine List.map_congr_left fun j hj => ?_
    have := List.mem_range.mp hj
    rw [extX_le (by omega), List.getD_eq_getElem?_getD, List.getD_eq_getElem?_getD, List.getElem?_append_left (by omega)]
  · rw [extX_le (Nat.le_refl n), List.getD_eq_getElem?_getD, List.getElem?_append_right (by omega), hn, Nat.sub_self]
    rfl
theorem runsO_app {rl : Nat} {bs : List Bar} {ops : List (List V)} {xs : Nat → Mo} {x' : Mo} {o : List V} {n : Nat} (hn : ops.length = n) (r : RunsO rl bs ops xs n) (s : StpO rl bs (xs n) o x') : RunsO rl bs (ops ++ [o]) (extX xs n x') (n + 1) := fun i hi => by
  by_cases c : i < n
  · have := r i c
    rw [extX_le (by omega), extX_le (by omega), List.getD_eq_getElem?_getD, List.getElem?_append_left (by omega), ← List.getD_eq_getElem?_getD]
    exact this
  · obtain rfl : i = n := by omega
    rw [extX_le (Nat.le_refl _), extX_new, List.getD_eq_getElem?_getD, List.getElem?_append_right (by omega), hn, Nat.sub_self]
    exact s
end Bk
set_option Elab.async false
set_option maxRecDepth 100000
set_option maxHeartbeats 20000000
namespace Bk
open PySem PySem.Spec PyProof.Rows L2 LamX
abbrev lwQ : Str := (("law" : Str) ++ (".<locals>." : Str) ++ ("<lambda>" : Str))
def two (x y : Mo) : Nat → Mo
  | 0 => x
  | _ + 1 => y
theorem at_m1 {α : Type} {xs : List α} {v : α} (h : xs[xs.length - 1]? = some v) (h1 : 0 < xs.length) : atI xs (-1) = some v := by
  unfold atI ixN
  rw [if_neg (by decide), if_pos (by omega)]
  show xs[((-1 : Int) + (xs.length : Nat)).toNat]? = some v
  rw [show ((-1 : Int) + (xs.length : Nat)).toNat = xs.length - 1 by omega]
  exact h
theorem odd_at {H : Hp} {q1 q2 q3 q4 q5 q6 : Addr} (e1 : H q1 = some (.tup [V.str "jump"])) (e2 : H q2 = some (.tup [V.str "pour"])) (e3 : H q3 = some (.tup [V.str "pour", V.int 1, V.int 2])) (e4 : H q4 = some (.tup [])) (e5 : H q5 = some (.tup [V.str "scoop", V.str "top"])) (e6 : H q6 = some (.tup [V.str "undo"])) {z : Int} (h0 : 0 ≤ z) (h1 : z < 6) :
    ∃ q ol, atI [V.ref q1, .ref q2, .ref q3, .ref q4, .ref q5, .ref q6] z = some (.ref q) ∧ H q = some (.tup ol) ∧ OpD ol ∧ opOk ol = false := by
  have : z = 0 ∨ z = 1 ∨ z = 2 ∨ z = 3 ∨ z = 4 ∨ z = 5 := by omega
  rcases this with rfl | rfl | rfl | rfl | rfl | rfl
  · exact ⟨_, _, rfl, e1, ⟨by decide, .inr ⟨_, _, rfl, by decide +kernel⟩⟩, by decide +kernel⟩
  · exact ⟨_, _, rfl, e2, ⟨by decide, .inr ⟨_, _, rfl, by decide +kernel⟩⟩, by decide +kernel⟩
  · exact ⟨_, _, rfl, e3, ⟨by decide, .inr ⟨_, _, rfl, by decide +kernel⟩⟩, by decide +kernel⟩
  · exact ⟨_, _, rfl, e4, ⟨by decide, .inl rfl⟩, by decide +kernel⟩
  · exact ⟨_, _, rfl, e5, ⟨by decide, .inr ⟨_, _, rfl, by decide +kernel⟩⟩, by decide +kernel⟩
  · exact ⟨_, _, rfl, e6, ⟨by decide, .inr ⟨_, _, rfl, by decide +kernel⟩⟩, by decide +kernel⟩
theorem fldO {K : PySem.W.Frag} {C dd : Addr} {H : Hp} {j : Nat} {n : Str} {v : V} (hj : fldsOf j = [n]) (hno : PySem.W.findIn K (.ref C) n = some none) (h : H dd = some (.xd [(n, v)])) : FldsE K C (some dd) H (fldsOf j) [v] := by
  rw [hj]
  refine ⟨rfl, fun i m y h1 h2 => ?_⟩
  cases i with
  | zero =>
    cases (Option.some.inj h1 : n = m)
    cases (Option.some.inj h2 : v = y)
    exact ⟨hno, dd, _, rfl, h, by simp⟩
  | succ i => simp at h2
theorem opd2 {w : Str} {x : V} (h : PyData.strOk w = true) : OpD [.str w, x] := ⟨by show 2 ≤ 5; decide, .inr ⟨_, _, rfl, h⟩⟩
theorem opsAt2 {K : PySem.W.Frag} {H : Hp} {p q : Addr} {a b : List V} (h1 : H p = some (.tup a)) (h2 : H q = some (.tup b)) (d1 : OpD a) (d2 : OpD b) : OpsAt K H [.ref p, .ref q] [a, b] :=
  ⟨rfl, fun i v l hv hl => by
    match i with
    | 0 => cases hv; cases hl; exact ⟨p, rfl, .inl (.inl h1), d1⟩
    | 1 => cases hv; cases hl; exact ⟨q, rfl, .inl (.inl h2), d2⟩
    | n + 2 => simp at hv⟩
theorem ne_told {K : PySem.W.Frag} {H : Hp} {M M' : List Addr} {p q : Addr} {rain : List Int} {bs : List Bar} {x : Mo} {ops : List (List V)} {Q : VK} (pk : PartsOk rain bs) (hops : ∀ l ∈ ops, PlOp l) (h1 : Tol H M p bs x ops) (h2 : Tol H M' q bs x ops) (k : Q (.bl false) H) : rNeW K (.ref p) (.ref q) H Q := by
  obtain ⟨xs, ys, e1, e2, hp⟩ := tol_eq (K := K) pk.nodup (names_ok pk) hops h1 h2
  exact ⟨5, p, q, xs, ys, by decide, rfl, rfl, SqL.of e1, SqL.of e2, hp, k⟩
theorem redo_both {K : PySem.W.Frag} {CR CM CV : Addr} {Tl : List (Addr × Str)} {H : Hp} {h l v d u se : Addr} {rv : V} {rain : List Int} {bs : List Bar} {xs : Nat → Mo} {ops : List (List V)} {N L : Nat} {Q : VK} {E : XK} (hR : CR ≠ CV) (hN : N ≤ 100) (hL : L ≤ N) (W : Wd K CR CM CV Tl H h l v d u se rv rain bs (xs L) (stepsO ops xs L) (UN ops xs N L) xs ops N)
    (k : ∀ (H' : Hp) (L2 : Nat), L2 = min N (L + 1) → Wd K CR CM CV Tl H' h l v d u se rv rain bs (xs L2) (stepsO ops xs L2) (UN ops xs N L2) xs ops N → Q (.bl (decide (L < N))) H') : spRedo K CR CM CV [.ref v] H Q E := by
  refine ⟨v, d, u, rain, bs, _, _, _, rfl, W.li, by rw [stepsO_len]; omega, fun e => ?_, fun un0 l0 x0 e H' k' li' => ?_⟩
  · have hj : N - L = 0 := by
      have := congrArg List.length e
      rw [UN_len] at this
      exact this
    have := k H L (by omega) W
    rw [decide_eq_false (by omega)] at this
    exact this
  · have hj : L < N := by
      have := congrArg List.length e
      rw [UN_len, List.length_append] at this
      simp at this
      omega
    rw [UN_step hj] at e
    obtain ⟨e1, e2⟩ := List.append_inj' e rfl
    cases e1
    cases e2
    have := k H' (L + 1) (by omega) (W.live hR k' (by rw [stepsO_succ]; exact li') (.inl rfl) (.inl rfl))
    rw [decide_eq_true hj] at this
    exact this
theorem redo_nil {K : PySem.W.Frag} {CR CM CV : Addr} {Tl : List (Addr × Str)} {H : Hp} {h l v d u se : Addr} {rv : V} {rain : List Int} {bs : List Bar} {xs : Nat → Mo} {ops : List (List V)} {N L : Nat} {Q : VK} {σ : L2.St} {E : XK} (hR : CR ≠ CV) (hN : N ≤ 100) (hL : L ≤ N) (W : Wd K CR CM CV Tl H h l v d u se rv rain bs (xs L) (stepsO ops xs L) (UN ops xs N L) xs ops N)
    (k : ∀ (H' : Hp) (L2 : Nat), L2 = min N (L + 1) → Wd K CR CM CV Tl H' h l v d u se rv rain bs (xs L2) (stepsO ops xs L2) (UN ops xs N L2) xs ops N → Q (.bl (decide (L < N))) H') : tNil σ H (fun vs H2 => spRedo K CR CM CV (.ref v :: (vs ++ [])) H2 Q E) := redo_both (E := E) hR hN hL W k
section
variable {P : Program} {w : World} {K : PySem.W.Frag} {mg : Str → Option Value} {base : Heap} {CP CR CM CV CN CU CO CS c0 c1 c2 c4 c5 c6 : Addr}
def spLawT (K : PySem.W.Frag) (Tl : List (Addr × Str)) : Sp := fun vs H Q _ => ∃ (a : Addr) (ns : List Int), vs = [.ref a] ∧ ns.length ≤ 63 ∧ Tabs Tl H ∧ SqL K H a (ns.map V.int) ∧ ∀ H', Q (.bl true) H'
theorem ok_law {f cW QW : Addr} {fd : FuncData} {Tl : List (Addr × Str)} (hmT : (QW, lwQ) ∈ Tl) (hu : ∀ p ∈ Tl, p.1 = QW → p.2 = lwQ) (F : FunC K "law" "law" s_law (.ref cW) f fd) (TB : TabB base mg cW QW) (T : Txt K mg CP CR) (TV : Txt_LiveRow K mg CV) (FO : OutF K mg s_law_outcome "_law_outcome" "_law_call") (RE : RowErr K mg CS c0 c1 c2 CO c4 c5 c6 CU)
    (KO : KindR K CS c0 c1 c2 CO c4 c5 c6 CU CO 3) (KU : KindR K CS c0 c1 c2 CO c4 c5 c6 CU CU 7) (hnU : PySem.W.findIn K (.ref CU) "name" = some none) (hnO : PySem.W.findIn K (.ref CO) "index" = some none) (hR : CR ≠ CV) (hM : CM ≠ CV)
    (c_law_mix : Callee P w K mg base "_law_mix" 1 (spMix K)) (c_law_next : Callee P w K mg base "_law_next" 1 (spNext K)) (c_law_parts : Callee P w K mg base "_law_parts" 2 (spParts K)) (c_law_row : Callee P w K mg base "_law_row" 7 (spRowP K CR)) (c_law_alike : Callee P w K mg base "_law_alike" 6 (spAlkW K 6))
    (c_law_told : Callee P w K mg base "_law_told" 5 (spToldD K CR CM CV)) (c_law_deed : Callee P w K mg base "_law_deed" 2 (spDeed K))
    (c_LiveRow__init : Maker P w K mg base "LiveRow" CV 4 (spLiveInitG K CR CM CV)) (x_LiveRow_pour : CalleeMX P w K mg base CV "pour" 6 (spPourG K CR CM CV CN)) (x_LiveRow_apply_all : CalleeMX P w K mg base CV "apply_all" 9 (spApply K CR CM CV CU CO)) (x_LiveRow_replay : CalleeCX P w K mg base CV "replay" 11 (spReplay K CR CM CV CU CO))
    (c_LiveRow_undo : CalleeM P w K mg base CV "undo" 1 (spUndo K CR CM CV)) (c_LiveRow_redo : CalleeM P w K mg base CV "redo" 1 (spRedo K CR CM CV)) (c_LiveRow_history : CalleeP P w K mg base CV "history" 1 (spHist K CR CM CV)) :
    FnOk P w K mg base CX0 14 f fd P_law (spLawT K Tl) := by
  refine F.ok sc_law (fun vs H Q E h => ?_) (fun A outer s H vs Q E hr h => ?_)
  · obtain ⟨a, ns, rfl, _⟩ := h
    rfl
  · obtain ⟨a, ns, rfl, hlen, hT, hS, k⟩ := h
    refine ⟨_, (pss_cons (ps_set (i := 1) sc_law.nd rfl (.inl rfl) (pe_callF c_law_mix (hr.mono (by decide)) (by rfl) (pa_cons (pv 0) (pa_cons pe_int pa_nil))))
      (pss_cons (ps_set (i := 2) sc_law.nd rfl (.inr rfl) (pe_callF c_law_row (hr.mono (by decide)) (by rfl) (pa_cons (pe_callF c_law_parts (hr.mono (by decide)) (by rfl) (pa_cons (pv 1) (pa_cons pe_int (pa_cons pe_int pa_nil)))) pa_nil)))
      (pss_cons (ps_set (i := 3) sc_law.nd rfl (.inr rfl) (pe_makeF c_LiveRow__init (hr.mono (by decide)) (by rfl) (pa_cons (pv 2) pa_nil)))
      (pss_cons (ps_set (i := 4) sc_law.nd rfl (.inl rfl) (pe_lst (pa_cons (pe_callF c_law_told (hr.mono (by decide)) (by rfl) (pa_cons (pv 3) pa_nil)) pa_nil)))
      (pss_cons (ps_for PassesOwn.never rfl (pi_range1 (by rfl) T.n_range (pa_cons (pe_op op_add pe_int (pe_callF c_law_next (hr.mono (by decide)) (by rfl) (pa_cons (pv 1) (pa_cons pe_int pa_nil)))) pa_nil)) (pg_name (i := 5) sc_law.nd rfl (.inl rfl))
        (pss_cons (ps_expr (pe_methFX x_LiveRow_apply_all L2.takes0 (hr.mono (by decide)) (pv 3) (pa_cons (pe_lst (pa_cons (pe_callF c_law_deed (hr.mono (by decide)) (by rfl) (pa_cons (pv 1) pa_nil)) pa_nil)) pa_nil)))
      (pss_one (ps_expr (pe_bm PySem.F.plainAttrs_list PySem.F.slot_list_append PySem.F.type_list_append mt_append (pv 4) (pa_cons (pe_callF c_law_told (hr.mono (by decide)) (by rfl) (pa_cons (pv 3) pa_nil)) pa_nil))))))
      (pss_cons (ps_set (i := 6) sc_law.nd rfl (.inl rfl) (pe_op op_sub (pe_callB call_len_seq (by rfl) T.n_len bt_len (pa_cons (pv 4) pa_nil)) pe_int))
      (pss_cons (ps_set (i := 7) sc_law.nd rfl (.inl rfl) (pe_callF c_law_next (hr.mono (by decide)) (by rfl) (pa_cons (pv 1) (pa_cons (pe_op op_add (pv 6) pe_int) pa_nil))))
      (pss_cons (ps_for PassesOwn.never rfl (pi_range1 (by rfl) T.n_range (pa_cons (pv 7) pa_nil)) (pg_name (i := 8) sc_law.nd rfl (.inl rfl))
        (pss_one (ps_if (pt_not (pt_val (pe_callF c_law_alike (hr.mono (by decide)) (by rfl) (pa_cons (pe_methF0 c_LiveRow_undo (hr.mono (by decide)) (pv 3)) (pa_cons (pe_cmpR op_lt (pv 8) (pv 6) (nomark _)) pa_nil)))))
        (pss_one (ps_ret pe_bl))
        pss_nil)))
      (pss_cons (ps_set (i := 9) sc_law.nd rfl (.inl rfl) (pe_callB (call_max2 rfl) (by rfl) T.n_max bt_max (pa_cons pe_int (pa_cons (pe_op op_sub (pv 6) (pv 7)) pa_nil))))
      (pss_cons (ps_set (i := 10) sc_law.nd rfl (.inr rfl) (pe_ix ix_list (pe_lst (pa_cons (pe_tup (pa_cons pe_str pa_nil)) (pa_cons (pe_tup (pa_cons pe_str pa_nil)) (pa_cons (pe_tup (pa_cons pe_str (pa_cons pe_int (pa_cons pe_int pa_nil)))) (pa_cons (pe_tup pa_nil) (pa_cons (pe_tup (pa_cons pe_str (pa_cons pe_str pa_nil))) (pa_cons (pe_tup (pa_cons pe_str pa_nil)) pa_nil))))))) (pe_callF c_law_next (hr.mono (by decide)) (by rfl) (pa_cons (pv 1) (pa_cons pe_int pa_nil))) (fun _ _ => rfl)))
      (pss_cons (ps_if (PW.pt (pw_or (pt_cmpR (op_neD hr.units) (pe_out FO sc_law_outcome rfl (.inl rfl) ((fun g cdv => gives_outR T.n_isinstance RE g cdv)) (by rfl) TB rfl hmT hu hr (lamS_by (by rfl)) (fun A2 outer2 s2 H2 E2 f2 c2 hr2 => (pe_methFX x_LiveRow_apply_all (takes_of rfl rfl rfl rfl) (hr2.mono (by decide)) (pv 3) (pa_cons (pe_lst (pa_cons (pe_tup (pa_cons pe_str (pa_cons pe_int pa_nil))) (pa_cons (pv 10) pa_nil))) pa_nil)))) (pe_tup (pa_cons pe_str (pa_cons pe_int pa_nil))) (nomark _)) (pw_or1 (pt_cmpR (op_neW hr.units) (pe_callF c_law_told (hr.mono (by decide)) (by rfl) (pa_cons (pv 3) pa_nil)) (pe_ix ix_list (pv 4) (pv 9) (fun _ _ => rfl)) (nomark _)))))
        (pss_one (ps_ret pe_bl))
        pss_nil)
      (pss_cons (ps_if (pt_cmpR (op_neD hr.units) (pe_out FO sc_law_outcome rfl (.inl rfl) ((fun g cdv => gives_outR T.n_isinstance RE g cdv)) (by rfl) TB rfl hmT hu hr (lamS_by (by rfl)) (fun A2 outer2 s2 H2 E2 f2 c2 hr2 => (pe_methFX x_LiveRow_apply_all (takes_of rfl rfl rfl rfl) (hr2.mono (by decide)) (pv 3) (pa_cons (pe_lst (pa_cons (pe_tup (pa_cons pe_str (pa_cons pe_int pa_nil))) (pa_cons (pe_tup (pa_cons pe_str (pa_cons pe_str pa_nil))) pa_nil))) pa_nil)))) (pe_tup (pa_cons pe_str (pa_cons pe_str pa_nil))) (nomark _))
        (pss_one (ps_ret pe_bl))
        pss_nil)
      (pss_cons (ps_if (PW.pt (pw_or (pt_cmpR (op_neW hr.units) (pe_callF c_law_told (hr.mono (by decide)) (by rfl) (pa_cons (pv 3) pa_nil)) (pe_ix ix_list (pv 4) (pv 9) (fun _ _ => rfl)) (nomark _)) (pw_or1 (pt_not (pt_val (pe_callF c_law_alike (hr.mono (by decide)) (by rfl) (pa_cons (pe_methF0 c_LiveRow_redo (hr.mono (by decide)) (pv 3)) (pa_cons (pe_cmpR op_lt (pv 9) (pv 6) (nomark _)) pa_nil))))))))
        (pss_one (ps_ret pe_bl))
        pss_nil)
      (pss_cons (ps_set (i := 9) sc_law.nd rfl (.inl rfl) (pe_callB (call_min2 rfl) (by rfl) T.n_min bt_min (pa_cons (pv 6) (pa_cons (pe_op op_add (pv 9) pe_int) pa_nil))))
      (pss_cons (ps_if (pt_not (pt_val (pe_callF c_law_alike (hr.mono (by decide)) (by rfl) (pa_cons (pe_callF c_law_told (hr.mono (by decide)) (by rfl) (pa_cons (pv 3) pa_nil)) (pa_cons (pe_ix ix_list (pv 4) (pv 9) (fun _ _ => rfl)) pa_nil)))))
        (pss_one (ps_ret pe_bl))
        pss_nil)
      (pss_cons (ps_set (i := 11) sc_law.nd rfl (.inl rfl) (pe_cmethFX x_LiveRow_replay L2.takes0 (hr.mono (by decide)) (pe_glob (v := .ref CV) (by rfl) TV.g_LiveRow rfl) (pa_cons (pv 2) pa_nil)))
      (pss_cons (ps_expr (pe_methFX x_LiveRow_apply_all L2.takes0 (hr.mono (by decide)) (pv 11) (pa_cons (pe_propF c_LiveRow_history (hr.mono (by decide)) (pv 3) rfl) pa_nil)))
      (pss_cons (ps_if (PW.pt (pw_or (pt_cmpR (op_neW hr.units) (pe_callF c_law_told (hr.mono (by decide)) (by rfl) (pa_cons (pv 11) pa_nil)) (pe_ix ix_list (pv 4) (pv 9) (fun _ _ => rfl)) (nomark _)) (pw_or1 (pt_cmpR (op_neW hr.units) (pe_methFX x_LiveRow_apply_all L2.takes0 (hr.mono (by decide)) (pv 3) (pa_cons (pe_lst pa_nil) pa_nil)) (pe_lst pa_nil) (nomark _)))))
        (pss_one (ps_ret pe_bl))
        pss_nil)
      (pss_cons (ps_expr (pe_methFX x_LiveRow_pour L2.takes0 (hr.mono (by decide)) (pv 3) (pa_cons pe_int pa_nil)))
      (pss_cons (ps_if (PW.pt (pw_or (pt_val (pe_methF0 c_LiveRow_redo (hr.mono (by decide)) (pv 3))) (pw_or (pt_cmpR op_notBl (pe_methF0 c_LiveRow_undo (hr.mono (by decide)) (pv 3)) pe_bl (nomark _)) (pw_or1 (pt_cmpR (op_neW hr.units) (pe_callF c_law_told (hr.mono (by decide)) (by rfl) (pa_cons (pv 3) pa_nil)) (pe_ix ix_list (pv 4) (pv 9) (fun _ _ => rfl)) (nomark _))))))
        (pss_one (ps_ret pe_bl))
        pss_nil)
      (pss_cons (ps_if (pt_cmpR (op_neD hr.units) (pe_out FO sc_law_outcome rfl (.inl rfl) ((fun g cdv => gives_outR T.n_isinstance RE g cdv)) (by rfl) TB rfl hmT hu hr (lamS_by (by rfl)) (fun A2 outer2 s2 H2 E2 f2 c2 hr2 => (pe_cmethFX x_LiveRow_replay (takes_of rfl rfl rfl rfl) (hr2.mono (by decide)) (pe_glob (v := .ref CV) (by rfl) TV.g_LiveRow rfl) (pa_cons (pv 2) (pa_cons (pe_tup (pa_cons pe_str (pa_cons pe_int pa_nil))) (pa_cons (pe_tup (pa_cons pe_str pa_nil)) pa_nil)))))) (pe_tup (pa_cons pe_str (pa_cons pe_int pa_nil))) (nomark _))
        (pss_one (ps_ret pe_bl))
        pss_nil)
      (pss_cons (ps_set (i := 12) sc_law.nd rfl (.inl rfl) (pe_ix ix_list (pe_ix ix_list (pe_ix ix_list (pv 4) (pe_un un_neg pe_int) (fun _ _ => rfl)) pe_int (fun _ _ => rfl)) pe_int (fun _ _ => rfl)))
      (pss_one (ps_ret (pe_cmpR (op_eqW hr.units) (pe_callF c_law_told (hr.mono (by decide)) (by rfl) (pa_cons (pe_cmethFX x_LiveRow_replay L2.takes0 (hr.mono (by decide)) (pe_glob (v := .ref CV) (by rfl) TV.g_LiveRow rfl) (pa_cons (pv 2) (pa_cons (pv 12) pa_nil))) pa_nil)) (pe_ix ix_list (pv 4) pe_int (fun _ _ => rfl)) (nomark _)))))))))))))))))))))))))), ?_⟩
    refine ⟨_, rfl, a, ns, 44, rfl, hS, by omega, by decide, by decide, fun h l H1 s1 nh nl hH => ?_⟩
    refine ⟨_, rfl, h, l, 3, 6, rfl, hH, by decide, by decide, by decide, by decide, fun H2 pa ra ba rain bs k2 g2 hpa hra hba pk => ?_⟩
    have hpos := pk.pos
    have hle4 := pk.le4
    refine ⟨pa, ra, ba, rain, bs, rfl, hpa, .inl (.inl hra), hba, pk.row, pk.pos, pk.nodup, fun rv H3 s3 hrow => ?_⟩
    refine ⟨_, rfl, fun v dv nv ndv hne => ?_⟩
    have sN := (same_new ndv (o := .own v)).trans (same_new (o := .ins CV dv []) (by rw [upd_ne (Ne.symm hne)]; exact nv))
    refine ⟨v, dv, rv, rain, bs, rfl, upd_same, hrow.mono sN, pk.row, pk.pos, fun H4 d u k4 nd nu hli => ⟨rfl, ?_⟩⟩
    have s34 : Same H3 H4 := fun b o e => k4 _ _ (sN _ _ e) (ne_of_none e nv)
    have s24 := s3.trans s34
    have nd3 : H3 d = none := sN.free nd
    have nu3 : H3 u = none := sN.free nu
    have T4 := (kl_tabs (CV := CV) k2 hH.mv (hT.ext s1)).ext s24
    have g4 := g2.mono s24
    have hrow4 := hrow.mono s34
    have ndh : d ∉ [h, l] := g2.not (s3.free nd3)
    have nuh : u ∉ [h, l] := g2.not (s3.free nu3)
    clear hba hra hpa k2 s34 s24 sN k4 s1
    -- the first told
    refine ⟨_, rfl, v, d, u, rain, bs, _, [], [], rfl, hli, pk.row, pk.nodup, mo0_ok bs, by decide, fun p0 H5 s5 np0 tol0 => ?_⟩
    refine ⟨by show 1 ≤ sizeLine; decide, fun se nse => ?_⟩
    have s6 := same_new (o := .lst [V.ref p0]) nse
    have s46 := s5.trans s6
    have f6 : (upd H5 se (.lst [V.ref p0])) se = some (.lst [V.ref p0]) := upd_same
    generalize upd H5 se (.lst [V.ref p0]) = H6 at s6 s46 f6
    have g6 := g4.mono s46
    have hli6 := hli.mono s46
    have nse4 : H4 se = none := s5.free nse
    have W6 : Wd K CR CM CV Tl H6 h l v d u se rv rain bs (mo0 bs.length) (stepsO [] (fun _ => mo0 bs.length) 0) [] (fun _ => mo0 bs.length) [] 0 := by
      obtain ⟨m', t', cs', q1, q2, _⟩ := id g4
      obtain ⟨dx, m, wv, h1, _, _, ⟨_, h2, _⟩, ⟨_, h3, _⟩, _⟩ := id hli
      have ex : ∀ b ∈ [h, l, v, d, u], ∃ o, H4 b = some o := fun b hb => by
        simp only [List.mem_cons, List.not_mem_nil, or_false] at hb
        rcases hb with rfl | rfl | rfl | rfl | rfl
        · exact ⟨_, q1⟩
        · exact ⟨_, q2⟩
        · exact ⟨_, h1⟩
        · exact ⟨_, h2⟩
        · exact ⟨_, h3⟩
      have out : ∀ b ∈ [h, l, v, d, u], b ≠ se := fun b hb z => by
        obtain ⟨o, eo⟩ := ex b hb
        rw [z, nse4] at eo
        cases eo
      refine ⟨g6, hli6, hrow4.mono s46, T4.ext s46, ⟨_, f6, rfl, fun j y hy => ?_⟩, fun b hb => ?_, (out d (by simp)).symm, (out u (by simp)).symm⟩
      · cases j with
        | succ j => simp at hy
        | zero =>
          cases hy
          refine ⟨p0, rfl, ((tol0 _ ex).newM fun b hb => ?_).mono s6⟩
          simp only [List.mem_cons, List.not_mem_nil, or_false] at hb
          rcases hb with rfl | rfl | rfl | rfl | rfl | rfl
          · simp
          · simp
          · simp
          · simp
          · simp
          · exact .inr nse
      · simp only [List.mem_cons, List.not_mem_nil, or_false] at hb
        have no2 : ∀ {y : Addr}, y ∉ [h, l] → y ≠ h ∧ y ≠ l := fun n => ⟨fun e => n (by simp [e]), fun e => n (by simp [e])⟩
        rcases hb with rfl | rfl | rfl
        · exact no2 ndh
        · exact no2 nuh
        · exact ⟨(out h (by simp)).symm, (out l (by simp)).symm⟩
    clear tol0 s5 np0 nse nse4 f6 s6 s46 hli6 hli hrow4 T4 g4 ndh nuh hH
    -- the operations
    refine ⟨_, rfl, h, l, 12, rfl, W6.hs, by decide, by decide, fun z0 H7 z00 z01 k7 g7 => ⟨_, _, rfl, rfl, _, rfl, by omega, by omega, ?_⟩⟩
    have W7 := W6.draw hR hM k7 g7
    clear W6 g6 k7
    refine for_it walk_range (fun i σ H' => ∃ (d u : Addr) (xs : Nat → Mo) (ops : List (List V)) (y5 y6 y7 y8 y9 y10 y11 y12 : Option V), Wd K CR CM CV Tl H' h l v d u se rv rain bs (xs i) (stepsO ops xs i) [] xs ops i ∧ ops.length = i ∧ RunsO rain.length bs ops xs i ∧ xs 0 = mo0 bs.length ∧ (∀ o ∈ ops, Deed o) ∧ σ = [some (.ref a), some (.ref h), some rv, some (.ref v), some (.ref se), y5, y6, y7, y8, y9, y10, y11, y12])
      ⟨d, u, fun _ => mo0 bs.length, [], _, _, _, _, _, _, _, _, W7, rfl, (fun i hi => absurd hi (Nat.not_lt_zero i)), rfl, (fun o ho => by cases ho), rfl⟩ (fun i σ H' _ p => trivial) ?_ ?_
    · clear W7 g7
      rintro i x0 σ H8 H9 hi ⟨d, u, xs, ops, y5, y6, y7, y8, y9, y10, y11, y12, W8, hol, hrun, hx0, hd, rfl⟩ ⟨rfl, rfl⟩
      have mok : MoOk bs (xs 0) := by rw [hx0]; exact mo0_ok bs
      have hi12 : i ≤ 12 := by omega
      obtain ⟨dx, m, wv, h1, _⟩ := id W8.li
      refine ⟨_, rfl, v, dx, _, rfl, h1, rfl, ?_⟩
      refine ⟨_, rfl, h, l, rfl, W8.hs, fun o q H10 ho k10 g10 nq eq => ?_⟩
      have W10 := W8.draw hR hM k10 g10
      refine ⟨by show 1 ≤ sizeLine; decide, fun p np => ?_⟩
      have W11 := W10.same (same_new (o := .lst [V.ref q]) np)
      have eq11 := same_new (o := .lst [V.ref q]) np _ _ eq
      obtain ⟨x', hst⟩ := ho.stp pk (xs i)
      have moi : MoOk bs (xs i) := MoOk.runs pk.row mok hrun i (Nat.le_refl i)
      have mox : MoOk bs x' := MoOk.stp pk.row moi hst
      refine ⟨v, d, u, p, rain, bs, stepsO ops xs i, [], [.ref q], [o], two (xs i) x', rfl, W11.li, SqL.of upd_same, ⟨rfl, fun j y o' hj hj' => ?_⟩, by show 1 ≤ 100; decide, pk.row, hpos, pk.nodup, moi, by rw [stepsO_len]; omega, .inl ⟨fun o' ho' => by rw [List.mem_singleton.mp ho']; exact ho.ok, fun j hj => ?_, fun H12 d' u' r rs k12 nd' nu' li' _ _ => ?_⟩⟩
      · cases j with
        | succ j => simp at hj
        | zero =>
          cases hj
          cases hj'
          exact ⟨q, rfl, .inl (.inl eq11), ho.opd⟩
      · obtain rfl : j = 0 := by simpa using hj
        exact hst
      have W12 := W11.live hR (kl_of k12 (fun b hb => by rw [List.mem_singleton.mp hb]; simp)) li' (.inr nd') (.inr nu')
      have W12' : Wd K CR CM CV Tl H12 h l v d' u' se rv rain bs x' (stepsO ops xs i ++ [(o, xs i)]) [] xs ops i := W12
      clear W12 W11 W10 W8 k12 k10 g10 eq11 eq np
      obtain ⟨ps, g1, g2, _⟩ := id W12'.seen
      refine ⟨_, rfl, .inl ⟨rfl, _, SqL.of g1⟩, ?_⟩
      refine ⟨_, rfl, v, d', u', rain, bs, x', stepsO ops xs i ++ [(o, xs i)], [], rfl, W12'.li, pk.row, pk.nodup, mox, by rw [List.length_append, stepsO_len]; show i + 1 ≤ 1000; omega, fun p1 H13 s13 np1 tol1 => ?_⟩
      have tol2 := tol1 _ W12'.ex
      rw [← stepsO_app hol (x' := x'), stepsO_fst (by rw [List.length_append, hol]; exact Nat.le_refl _)] at tol2
      refine ⟨se, ps, _, rfl, rfl, s13 _ _ g1, by rw [g2]; exact Nat.lt_of_le_of_lt (show i + 1 ≤ 1000 by omega) (by decide), ?_⟩
      have W14 := ((W12'.same s13).next (x' := x') (o := o) hol).app hR hM (s13 _ _ g1) (by rw [extX_new]; exact tol2)
      refine ⟨d', u', extX xs i x', ops ++ [o], _, _, _, _, _, _, _, _, by rw [extX_new, stepsO_app hol]; exact W14, by rw [List.length_append, hol]; rfl, runsO_app hol hrun hst, by rw [extX_le (Nat.zero_le i)]; exact hx0, fun o' ho' => ?_, rfl⟩
      rcases List.mem_append.mp ho' with e | e
      · exact hd _ e
      · rw [List.mem_singleton.mp e]
        exact ho
    · clear W7 g7
      rintro σ H8 ⟨d, u, xs, ops, y5, y6, y7, y8, y9, y10, y11, y12, W8, hol, hrun, hx0, hd, rfl⟩
      have mok : MoOk bs (xs 0) := by rw [hx0]; exact mo0_ok bs
      obtain ⟨N, hN⟩ : ∃ N, (1 + z0).toNat = N := ⟨_, rfl⟩
      rw [hN] at W8 hol hrun
      have hN1 : 1 ≤ N := by omega
      have hN2 : N ≤ 12 := by omega
      clear hN z00 z01
      have mo : ∀ i, i ≤ N → MoOk bs (xs i) := MoOk.runs pk.row mok hrun
      have hpl : ∀ o ∈ ops, PlOp o := fun o ho => (hd o ho).pl
      -- how many
      obtain ⟨ps, g1, g2, _⟩ := id W8.seen
      refine ⟨_, rfl, se, ps, rfl, .inl (SqL.of g1), _, _, rfl, rfl, ?_⟩
      clear g1
      refine ⟨_, rfl, _, rfl, _, _, rfl, rfl, h, l, _, rfl, W8.hs, by omega, by omega, fun bk H9 bk0 bk1 k9 g9 => ?_⟩
      have W9 := W8.draw hR hM k9 g9
      rw [show stepsO ops xs N = stepsO ops xs (N - 0) by rfl, show ([] : List (List V × Mo)) = UN ops xs N (N - 0) by exact UN_nil.symm] at W9
      clear W8 k9 g9
      -- undone
      refine ⟨_, rfl, _, rfl, by omega, by omega, for_it walk_range (fun j σ H' => ∃ (y8 : Option V), Wd K CR CM CV Tl H' h l v d u se rv rain bs (xs (N - j)) (stepsO ops xs (N - j)) (UN ops xs N (N - j)) xs ops N ∧ σ = [some (.ref a), some (.ref h), some rv, some (.ref v), some (.ref se), y5, some (.int (((ps.length : Nat) : Int) - 1)), some (.int bk), y8, y9, y10, y11, y12]) ⟨_, W9, rfl⟩ (fun i σ H' _ p => trivial) ?_ ?_⟩
      · clear W9
        rintro j x0 σ H10 H11 hj ⟨y8, W10, rfl⟩ ⟨rfl, rfl⟩
        obtain ⟨dx, m, wv, h1, _⟩ := id W10.li
        refine ⟨_, rfl, v, dx, _, rfl, h1, rfl, v, d, u, rain, bs, _, _, _, rfl, W10.li, by rw [UN_len]; omega, fun e => ?_, fun dn0 l0 x0 e H12 k12 li' => ?_⟩
        · have hj2 : N - j = 0 := by
            have := congrArg List.length e
            rw [stepsO_len] at this
            exact this
          refine ⟨_, rfl, _, rfl, _, _, rfl, rfl, _, _, rfl, .inl ⟨rfl, ?_⟩, fun H13 s13 => ⟨_, rfl, iteF ⟨_, ?_, rfl⟩⟩⟩
          · exact congrArg V.bl (decide_eq_false (by omega)).symm
          · rw [show N - (j + 1) = N - j by omega]
            exact W10.same s13
        · have hj2 : N - j ≠ 0 := fun z => by
            have := congrArg List.length e
            rw [stepsO_len, z, List.length_append] at this
            simp at this
          obtain ⟨m, hm⟩ : ∃ m, N - j = m + 1 := ⟨N - j - 1, by omega⟩
          rw [hm] at W10 e li'
          rw [stepsO_succ] at e
          obtain ⟨e1, e2⟩ := List.append_inj' e rfl
          cases e1
          cases e2
          rw [← UN_step (by omega)] at li'
          have W12 := W10.live hR k12 li' (.inl rfl) (.inl rfl)
          refine ⟨_, rfl, _, rfl, _, _, rfl, rfl, _, _, rfl, .inl ⟨rfl, ?_⟩, fun H13 s13 => ⟨_, rfl, iteF ⟨_, ?_, rfl⟩⟩⟩
          · exact congrArg V.bl (decide_eq_true (by omega)).symm
          · rw [show N - (j + 1) = m by omega]
            exact W12.same s13
      · rintro σ H10 ⟨y8, W10, rfl⟩
        clear W9
        obtain ⟨L, hL⟩ : ∃ L, N - bk.toNat = L := ⟨_, rfl⟩
        rw [hL] at W10
        have hLN : L ≤ N := by omega
        -- what is left, the odd operation
        refine ⟨_, rfl, _, rfl, _, _, rfl, rfl, _, _, rfl, ?_⟩
        refine ⟨by show 1 ≤ sizeLine; decide, fun q1 n1 => ⟨by show 1 ≤ sizeLine; decide, fun q2 n2 => ⟨by show 3 ≤ sizeLine; decide, fun q3 n3 => ⟨by show 0 ≤ sizeLine; decide, fun q4 n4 => ⟨by show 2 ≤ sizeLine; decide, fun q5 n5 => ⟨by show 1 ≤ sizeLine; decide, fun q6 n6 => ⟨by show 6 ≤ sizeLine; decide, fun ql nl => ?_⟩⟩⟩⟩⟩⟩⟩
        have t1 := same_new (o := .tup [V.str "jump"]) n1
        have t2 := same_new (o := .tup [V.str "pour"]) n2
        have t3 := same_new (o := .tup [V.str "pour", V.int 1, V.int 2]) n3
        have t4 := same_new (o := .tup []) n4
        have t5 := same_new (o := .tup [V.str "scoop", V.str "top"]) n5
        have t6 := same_new (o := .tup [V.str "undo"]) n6
        have t7 := same_new (o := .lst [V.ref q1, .ref q2, .ref q3, .ref q4, .ref q5, .ref q6]) nl
        have t27 := ((((t2.trans t3).trans t4).trans t5).trans t6).trans t7
        have f1 := t27 _ _ (upd_same (H := H10) (a := q1) (o := .tup [V.str "jump"]))
        have f2 := ((((t3.trans t4).trans t5).trans t6).trans t7) q2 _ upd_same
        have f3 := (((t4.trans t5).trans t6).trans t7) q3 _ upd_same
        have f4 := ((t5.trans t6).trans t7) q4 _ upd_same
        have f5 := (t6.trans t7) q5 _ upd_same
        have f6 := t7 q6 _ upd_same
        have W11 := W10.same (t1.trans t27)
        have nql : ql ∉ [h, l] := ((W10.same (t1.trans ((((t2.trans t3).trans t4).trans t5).trans t6))).hs).not nl
        have fl := upd_same (H := upd (upd (upd (upd (upd (upd H10 q1 (.tup [V.str "jump"])) q2 (.tup [V.str "pour"])) q3 (.tup [V.str "pour", V.int 1, V.int 2])) q4 (.tup [])) q5 (.tup [V.str "scoop", V.str "top"])) q6 (.tup [V.str "undo"])) (a := ql) (o := .lst [V.ref q1, .ref q2, .ref q3, .ref q4, .ref q5, .ref q6])
        generalize upd (upd (upd (upd (upd (upd (upd H10 q1 (.tup [V.str "jump"])) q2 (.tup [V.str "pour"])) q3 (.tup [V.str "pour", V.int 1, V.int 2])) q4 (.tup [])) q5 (.tup [V.str "scoop", V.str "top"])) q6 (.tup [V.str "undo"])) ql (.lst [V.ref q1, .ref q2, .ref q3, .ref q4, .ref q5, .ref q6]) = H11 at f1 f2 f3 f4 f5 f6 W11 fl
        clear t1 t2 t3 t4 t5 t6 t7 t27 n1 n2 n3 n4 n5 n6 nl W10
        refine ⟨_, rfl, h, l, 6, rfl, W11.hs, by decide, by decide, fun z6 H12 z60 z61 k12 g12 => ?_⟩
        have W12 := W11.draw hR hM k12 g12
        have hs := W11.hs
        obtain ⟨qo, ol, hat, fo, od, nok⟩ := odd_at (k12 _ _ f1 (hs.tupl f1)) (k12 _ _ f2 (hs.tupl f2)) (k12 _ _ f3 (hs.tupl f3)) (k12 _ _ f4 (hs.tupl f4)) (k12 _ _ f5 (hs.tupl f5)) (k12 _ _ f6 (hs.tupl f6)) z60 z61
        refine ⟨ql, _, _, _, rfl, rfl, SqL.of (k12 _ _ fl nql), hat, ?_⟩
        clear f1 f2 f3 f4 f5 f6 fl nql hat hs W11 k12 g12
        -- the odd operation raises
        refine ⟨W12.tab, fun H13 eN13 T13 => ?_⟩
        have W13 := W12.ext eN13 T13
        have fo13 := eN13 _ _ fo (fun _ z => by cases z)
        clear W12 fo eN13 T13
        obtain ⟨dx, m, wv, h1, _⟩ := id W13.li
        refine ⟨_, rfl, v, dx, _, rfl, h1, rfl, ?_⟩
        refine ⟨by show 2 ≤ sizeLine; decide, fun q1 n1 => ⟨_, rfl, by show 2 ≤ sizeLine; decide, fun p1 np1 => ?_⟩⟩
        have t1 := same_new (o := .tup [V.str "pour", V.int 1]) n1
        have t2 := same_new (o := .lst [V.ref q1, .ref qo]) np1
        have W14 := W13.same (t1.trans t2)
        refine ⟨v, d, u, p1, rain, bs, stepsO ops xs L, UN ops xs N L, [.ref q1, .ref qo], [[.str "pour", .int 1], ol], fun _ => xs L, rfl, W14.li, SqL.of upd_same, opsAt2 (t2 _ _ upd_same) ((t1.trans t2) _ _ fo13) (opd2 (by decide +kernel)) od, by show 2 ≤ 100; decide, pk.row, hpos, pk.nodup, mo L hLN, by rw [stepsO_len]; omega, .inr (.inl ⟨1, ol, rfl, nok, fun j l' hj hl => ?_, fun dd H15 s15 nd hdd => errO ⟨CO, 3, [.int 1], rfl, by decide, KO, .inr ⟨dd, _, rfl, hdd⟩, fldO rfl hnO hdd, fun pf H16 s16 hpf => ?_⟩⟩)⟩
        · obtain rfl : j = 0 := by omega
          cases hl
          rfl
        have W16 := W14.same (s15.trans s16)
        clear W13 W14 t1 t2 s15 s16 np1 n1 fo13 h1 od nok hdd
        refine ⟨by show 2 ≤ sizeLine; decide, fun p2 np2 => ?_⟩
        have t3 := same_new (o := .tup [V.str "operation", V.int 1]) np2
        have W17 := W16.same t3
        refine ⟨_, _, .tup (.inl (.inl (t3 _ _ hpf))) (.cons (.str _) (.cons (.int _) .nil)), .tup (.inl (.inl upd_same)) (.cons (.str _) (.cons (.int _) .nil)), by decide +kernel, by decide +kernel, ?_⟩
        refine ⟨_, rfl, iteBF (by decide +kernel) ?_⟩
        generalize upd H16 p2 (.tup [V.str "operation", V.int 1]) = H17 at W17
        clear t3 np2 hpf W16
        have hplt : ∀ {j : Nat}, ∀ o ∈ ops.take j, PlOp o := fun o ho => hpl o (List.mem_of_mem_take ho)
        refine ⟨_, rfl, v, d, u, rain, bs, _, _, _, rfl, W17.li, pk.row, pk.nodup, mo L hLN, by rw [stepsO_len]; omega, fun pt H18 s18 npt tol => ?_⟩
        have W18 := W17.same s18
        have tol2 := tol _ W17.ex
        rw [stepsO_fst (by omega)] at tol2
        obtain ⟨qs, pj, g1, g3, g4, tolj⟩ := W18.seen.at hLN
        refine ⟨_, rfl, _, rfl, se, qs, _, _, rfl, rfl, SqL.of g1, at_of (j := L) (by split <;> omega) g4, ne_told pk hplt tol2 tolj ⟨_, rfl, iteF ?_⟩⟩
        clear W17 tol tol2 tolj g1 g3 g4 s18 npt
        -- an unknown barrel
        refine ⟨W18.tab, fun H19 eN19 T19 => ?_⟩
        have W19 := W18.ext eN19 T19
        clear W18 eN19 T19
        obtain ⟨dx2, m2, wv2, h2, _⟩ := id W19.li
        refine ⟨_, rfl, v, dx2, _, rfl, h2, rfl, ?_⟩
        refine ⟨by show 2 ≤ sizeLine; decide, fun q1 n1 => ⟨by show 2 ≤ sizeLine; decide, fun q2 n2 => ⟨by show 2 ≤ sizeLine; decide, fun p1 np1 => ?_⟩⟩⟩
        have t1 := same_new (o := .tup [V.str "pour", V.int 1]) n1
        have t2 := same_new (o := .tup [V.str "lock", V.str "no"]) n2
        have t3 := same_new (o := .lst [V.ref q1, .ref q2]) np1
        have W20 := W19.same ((t1.trans t2).trans t3)
        refine ⟨v, d, u, p1, rain, bs, stepsO ops xs L, UN ops xs N L, [.ref q1, .ref q2], [[.str "pour", .int 1], [.str "lock", .str "no"]], two (xs L) (nxt rain.length bs (xs L) 1), rfl, W20.li, SqL.of upd_same, opsAt2 ((t2.trans t3) _ _ upd_same) (t3 _ _ upd_same) (opd2 (by decide +kernel)) (opd2 (by decide +kernel)), by show 2 ≤ 100; decide, pk.row, hpos, pk.nodup, mo L hLN, by rw [stepsO_len]; omega, .inr (.inr ⟨fun o' ho' => ?_, 1, "no", rfl, fun j hj => ?_, ?_, by decide +kernel, fun dd H21 s21 nd hdd => errO ⟨CU, 7, [.str "no"], rfl, by decide, KU, .inr ⟨dd, _, rfl, hdd⟩, fldO rfl hnU hdd, fun pf2 H22 s22 hpf2 => ?_⟩⟩)⟩
        · simp only [List.mem_cons, List.not_mem_nil, or_false] at ho'
          rcases ho' with rfl | rfl <;> rfl
        · obtain rfl : j = 0 := by omega
          exact .inl ⟨1, rfl, by decide, by decide, rfl⟩
        · rw [pk.nms]
          exact fun z => absurd (List.mem_of_mem_take z) (by decide +kernel)
        have W22 := W20.same (s21.trans s22)
        clear W19 W20 t1 t2 t3 s21 s22 np1 n1 n2 h2 hdd
        refine ⟨by show 2 ≤ sizeLine; decide, fun p3 np3 => ?_⟩
        have t4 := same_new (o := .tup [V.str "barrel", V.str "no"]) np3
        have W23 := W22.same t4
        refine ⟨_, _, .tup (.inl (.inl (t4 _ _ hpf2))) (.cons (.str _) (.cons (.str _) .nil)), .tup (.inl (.inl upd_same)) (.cons (.str _) (.cons (.str _) .nil)), by decide +kernel, by decide +kernel, ?_⟩
        refine ⟨_, rfl, iteBF (by decide +kernel) ?_⟩
        generalize upd H22 p3 (.tup [V.str "barrel", V.str "no"]) = H23 at W23
        clear t4 np3 hpf2 W22
        -- told, done again
        refine ⟨_, rfl, v, d, u, rain, bs, _, _, _, rfl, W23.li, pk.row, pk.nodup, mo L hLN, by rw [stepsO_len]; omega, fun pt3 H24 s24 npt3 tol3 => ?_⟩
        have W24 := W23.same s24
        have tol4 := tol3 _ W23.ex
        rw [stepsO_fst (by omega)] at tol4
        obtain ⟨qs2, pj2, g1, g3, g4, tolj2⟩ := W24.seen.at hLN
        refine ⟨_, rfl, _, rfl, se, qs2, _, _, rfl, rfl, SqL.of g1, at_of (j := L) (by split <;> omega) g4, ne_told pk hplt tol4 tolj2 ⟨_, rfl, iteF ?_⟩⟩
        clear W23 tol3 tol4 tolj2 g1 g3 g4 s24 npt3
        obtain ⟨dx3, m3, wv3, h3, _⟩ := id W24.li
        refine ⟨_, rfl, v, dx3, _, rfl, h3, rfl, ?_⟩
        refine redo_nil hR (by omega) hLN W24 fun H25 L2 hL2 W25 => ?_
        clear W24 h3
        refine ⟨_, rfl, _, rfl, _, _, rfl, rfl, _, _, rfl, .inl ⟨rfl, congrArg V.bl (decide_eq_decide.mpr (by split <;> omega))⟩, fun H26 s26 => ⟨_, rfl, iteF ?_⟩⟩
        have W26 := W25.same s26
        have hL2N : L2 ≤ N := by omega
        clear W25 s26
        refine ⟨_, rfl, _, rfl, _, _, rfl, rfl, _, _, rfl, ?_⟩
        -- told, alike
        refine ⟨_, rfl, v, d, u, rain, bs, _, _, _, rfl, W26.li, pk.row, pk.nodup, mo L2 hL2N, by rw [stepsO_len]; omega, fun pt4 H27 s27 npt4 tol5 => ?_⟩
        have W27 := W26.same s27
        have tol6 := tol5 _ W26.ex
        rw [stepsO_fst (by omega)] at tol6
        obtain ⟨qs3, pj3, g1, g3, g4, tolj3⟩ := W27.seen.at hL2N
        refine ⟨_, rfl, _, rfl, se, qs3, _, _, rfl, rfl, SqL.of g1, at_of (j := L2) (by split <;> split <;> omega) g4, _, _, rfl, tol_alk pk.nodup hle4 (by rw [List.length_take]; omega) hplt tol6 tolj3, fun H28 s28 => ⟨_, rfl, iteF ?_⟩⟩
        have W28 := W27.same s28
        clear W26 W27 s27 s28 tol5 tol6 tolj3 g1 g3 g4 npt4
        -- played again
        refine ⟨rfl, _, rfl, rv, rain, bs, [], [], fun _ => mo0 bs.length, rfl, W28.row, ⟨rfl, fun i v l hv => by simp at hv⟩, by decide, pk.row, hpos, pk.nodup, rfl, .inl ⟨fun o ho => (by cases ho), fun i hi => absurd hi (Nat.not_lt_zero i), fun H29 ta td tu s29 nta ntd ntu lit => ?_⟩⟩
        have W29 := W28.same s29
        have nvt : v ≠ ta := fun e => by
          obtain ⟨dxx, mx, wx, hx, _⟩ := W28.li
          rw [e, nta] at hx
          cases hx
        clear W28 s29 ntd ntu
        have lit' : LiAt K CR CM CV H29 ta td tu rain bs (xs 0) [] [] := by rw [hx0]; exact lit
        clear lit
        obtain ⟨dx4, m4, wv4, h4, _⟩ := id lit'
        obtain ⟨dx5, m5, wv5, h5, _⟩ := id W29.li
        have hdn : (stepsO ops xs L2).length = L2 := stepsO_len
        refine ⟨_, rfl, ta, dx4, _, rfl, h4, rfl, ?_⟩
        refine ⟨_, rfl, v, dx5, _, rfl, h5, v, d, u, rain, bs, _, _, _, rfl, W29.li, by rw [hdn]; omega, fun hp qh H30 s30 nhp ehp hql hq => ?_⟩
        have W30 := W29.same s30
        have lit2 := lit'.mono s30
        have h42 := s30 _ _ h4
        have htl : (ops.take L2).length = L2 := by rw [List.length_take]; omega
        refine ⟨ta, td, tu, hp, rain, bs, [], [], qh, ops.take L2, xs, rfl, lit2, SqL.of ehp, ⟨by rw [hql, hdn, htl], fun i y o hi ho => ?_⟩, by omega, pk.row, hpos, pk.nodup, mok, by decide, .inl ⟨fun o ho => (hd o (List.mem_of_mem_take ho)).ok, fun i hi => ?_, fun H31 td2 tu2 r rs k31 ntd2 ntu2 lit3 _ _ => ?_⟩⟩
        · have hi2 : i < L2 := by rw [← htl]; exact (List.getElem?_eq_some_iff.mp ho).1
          rw [List.getElem?_take, if_pos hi2] at ho
          have hst : (stepsO ops xs L2)[i]? = some (o, xs i) := by
            unfold stepsO
            rw [List.getElem?_map, List.getElem?_range hi2]
            simp [List.getD_eq_getElem?_getD, ho]
          obtain ⟨q, e1, e2⟩ := hq i y _ hi hst
          exact ⟨q, e1, .inl (.inl (s30 _ _ e2)), (hd o (List.mem_of_getElem? ho)).opd⟩
        · rw [htl] at hi
          have := hrun i (by omega)
          rw [List.getD_eq_getElem?_getD, List.getElem?_take, if_pos hi, ← List.getD_eq_getElem?_getD]
          exact this
        rw [List.nil_append, stepsO_take (by omega), htl] at lit3
        have W31 := W30.twin hR hM k31 h42 nvt
        clear W29 W30 lit' lit2 h4 h42 h5 s30 nhp ehp hql hq k31 ntd2 ntu2 nta
        -- told by the other
        refine ⟨_, rfl, ta, td2, tu2, rain, bs, _, _, _, rfl, lit3, pk.row, pk.nodup, mo L2 hL2N, by rw [hdn]; omega, fun pt5 H32 s32 npt5 tol7 => ?_⟩
        have W32 := W31.same s32
        have tol8 := tol7 [] (fun b hb => by cases hb)
        rw [stepsO_fst (by omega)] at tol8
        obtain ⟨qs4, pj4, g1, g3, g4, tolj4⟩ := W32.seen.at hL2N
        refine ⟨_, rfl, _, rfl, se, qs4, _, _, rfl, rfl, SqL.of g1, at_of (j := L2) (by split <;> split <;> omega) g4, ne_told pk hplt tol8 tolj4 ⟨_, rfl, iteF ?_⟩⟩
        clear W31 tol7 tol8 tolj4 g1 g3 g4 s32 npt5 lit3 nvt
        -- no operation
        obtain ⟨dx6, m6, wv6, h6, _⟩ := id W32.li
        refine ⟨_, rfl, v, dx6, _, rfl, h6, rfl, by decide, fun pe npe => ?_⟩
        have W33 := W32.same (same_new (o := .lst []) npe)
        refine ⟨v, d, u, pe, rain, bs, _, _, [], [], fun _ => xs L2, rfl, W33.li, SqL.of upd_same, ⟨rfl, fun i y l hv => by simp at hv⟩, by decide, pk.row, hpos, pk.nodup, mo L2 hL2N, by rw [hdn]; omega, .inl ⟨fun o ho => (by cases ho), fun i hi => absurd hi (Nat.not_lt_zero i), fun H34 d2 u2 r rs k34 nd2 nu2 li34 er hrl => ?_⟩⟩
        have W34 := W33.live hR (kl_of k34 (fun b hb => by rw [List.mem_singleton.mp hb]; simp)) li34 (.inr nd2) (.inr nu2)
        have W34' : Wd K CR CM CV Tl H34 h l v d2 u2 se rv rain bs (xs L2) (stepsO ops xs L2 ++ []) (UN ops xs N L2) xs ops N := W34
        rw [List.append_nil] at W34'
        obtain rfl : rs = [] := List.eq_nil_of_length_eq_zero hrl
        clear W32 W33 W34 li34 nd2 nu2 k34 npe h6
        refine ⟨by decide, fun p4 np4 => ⟨1, r, p4, [], [], by decide, rfl, rfl, SqL.of (same_new np4 _ _ er), SqL.of upd_same, .nil, _, rfl, iteF ?_⟩⟩
        have W35 := W34'.same (same_new (o := .lst []) np4)
        generalize upd H34 p4 (.lst []) = H35 at W35
        clear W34' er hrl np4
        -- one more is poured, and undone
        obtain ⟨dx7, m7, wv7, h7, _⟩ := id W35.li
        refine ⟨_, rfl, v, dx7, _, rfl, h7, rfl, v, d2, u2, rain, bs, _, _, _, 1, rfl, W35.li, pk.row, hpos, mo L2 hL2N, by rw [hdn]; omega, fun _ _ H36 u3 k36 nu3 li36 => ?_, fun hc => absurd ⟨by decide, by decide⟩ hc⟩
        have W36 := W35.live hR (kl_of k36 (fun b hb => by simp only [List.mem_cons, List.not_mem_nil, or_false] at hb ⊢; rcases hb with rfl | rfl <;> simp)) li36 (.inl rfl) (.inr nu3)
        clear W35 k36 nu3 li36 h7
        obtain ⟨dx8, m8, wv8, h8, _⟩ := id W36.li
        refine ⟨_, rfl, v, dx8, _, rfl, h8, rfl, ?_⟩
        refine ⟨v, d2, u3, rain, bs, _, _, _, rfl, W36.li, by rw [List.length_append, hdn]; show L2 + 1 ≤ 1000; omega, fun _ => ⟨_, rfl, iteF ?_⟩, fun un0 l0 x0 e => by simp at e⟩
        refine ⟨_, rfl, v, dx8, _, rfl, h8, rfl, ?_⟩
        refine ⟨v, d2, u3, rain, bs, _, _, _, rfl, W36.li, by decide, fun e => by simp at e, fun dn0 l0 x0 e H37 k37 li37 => ?_⟩
        obtain ⟨e1, e2⟩ := List.append_inj' e rfl
        cases e1
        cases e2
        have W37 := W36.live hR k37 li37 (.inl rfl) (.inl rfl)
        clear W36 k37 li37 h8 e
        refine ⟨true, true, rfl, rfl, _, rfl, iteF ?_⟩
        refine ⟨_, rfl, v, d2, u3, rain, bs, _, _, _, rfl, W37.li, pk.row, pk.nodup, mo L2 hL2N, by rw [hdn]; omega, fun pt6 H38 s38 npt6 tol9 => ?_⟩
        have W38 := W37.same s38
        have tol10 := tol9 _ W37.ex
        rw [stepsO_fst (by omega)] at tol10
        obtain ⟨qs5, pj5, g1, g3, g4, tolj5⟩ := W38.seen.at hL2N
        refine ⟨_, rfl, _, rfl, se, qs5, _, _, rfl, rfl, SqL.of g1, at_of (j := L2) (by split <;> split <;> omega) g4, ne_told pk hplt tol10 tolj5 ⟨_, rfl, iteF ?_⟩⟩
        clear W37 tol9 tol10 tolj5 g1 g3 g4 s38 npt6
        -- playing an unknown operation
        refine ⟨W38.tab, fun H39 eN39 T39 => ?_⟩
        have W39 := W38.ext eN39 T39
        clear W38 eN39 T39
        refine ⟨rfl, _, rfl, by show 2 ≤ sizeLine; decide, fun q3 n3 => ⟨by show 1 ≤ sizeLine; decide, fun q4 n4 => ?_⟩⟩
        have t1 := same_new (o := .tup [V.str "pour", V.int 1]) n3
        have t2 := same_new (o := .tup [V.str "jump"]) n4
        have W40 := W39.same (t1.trans t2)
        refine ⟨rv, rain, bs, [.ref q3, .ref q4], [[.str "pour", .int 1], [.str "jump"]], fun _ => mo0 bs.length, rfl, W40.row, opsAt2 (t2 _ _ upd_same) upd_same (opd2 (by decide +kernel)) ⟨by decide, .inr ⟨_, _, rfl, by decide +kernel⟩⟩, by show 2 ≤ 100; decide, pk.row, hpos, pk.nodup, rfl, .inr ⟨1, _, rfl, by decide +kernel, fun j l' hj hl => ?_, fun dd H41 s41 nd hdd => errO ⟨CO, 3, [.int 1], rfl, by decide, KO, .inr ⟨dd, _, rfl, hdd⟩, fldO rfl hnO hdd, fun pf H42 s42 hpf => ?_⟩⟩⟩
        · obtain rfl : j = 0 := by omega
          cases hl
          rfl
        have W42 := W40.same (s41.trans s42)
        clear W39 W40 t1 t2 s41 s42 n3 n4 hdd
        refine ⟨by show 2 ≤ sizeLine; decide, fun p5 np5 => ?_⟩
        have t3 := same_new (o := .tup [V.str "operation", V.int 1]) np5
        have W43 := W42.same t3
        refine ⟨_, _, .tup (.inl (.inl (t3 _ _ hpf))) (.cons (.str _) (.cons (.int _) .nil)), .tup (.inl (.inl upd_same)) (.cons (.str _) (.cons (.int _) .nil)), by decide +kernel, by decide +kernel, ?_⟩
        refine ⟨_, rfl, iteBF (by decide +kernel) ?_⟩
        generalize upd H42 p5 (.tup [V.str "operation", V.int 1]) = H43 at W43
        clear t3 np5 hpf W42
        -- the first operation again
        obtain ⟨qs6, pN, g1, g3, g4, tN⟩ := W43.seen.at (Nat.le_refl N)
        obtain ⟨D6, S6, G6, gs, e1, e2, e3, e4, e5, e6, _⟩ := tN
        have h0 : 0 < gs.length := by rw [e5, List.length_take]; omega
        have o0 : (ops.take N)[0]? = some (ops[0]'(by omega)) := by rw [List.getElem?_take, if_pos (by omega), List.getElem?_eq_getElem]
        obtain ⟨qf, ef, eft⟩ := e6 0 _ _ (List.getElem?_eq_getElem h0) o0
        have hgs : gs[0]? = some (.ref qf) := by rw [List.getElem?_eq_getElem h0, ef]
        refine ⟨_, rfl, _, rfl, se, qs6, _, _, rfl, rfl, SqL.of g1, at_m1 (by rw [g3]; exact g4) (by omega), ?_⟩
        refine ⟨pN, _, _, _, rfl, rfl, SqL.of e1, at_of (j := 5) rfl rfl, G6, gs, _, _, rfl, rfl, SqL.of e4, at_of (j := 0) rfl hgs, ?_⟩
        have ht1 : (ops.take 1).length = 1 := by rw [List.length_take]; omega
        refine ⟨rfl, _, rfl, _, rfl, rv, rain, bs, [.ref qf], ops.take 1, xs, rfl, W43.row, ⟨by rw [ht1]; rfl, fun i y o hi ho => ?_⟩, by omega, pk.row, hpos, pk.nodup, hx0, .inl ⟨fun o ho => (hd o (List.mem_of_mem_take ho)).ok, fun i hi => ?_, fun H44 ra2 rd2 ru2 s44 _ _ _ lir => ?_⟩⟩
        · match i with
          | i + 1 => simp at hi
          | 0 =>
            cases hi
            rw [List.getElem?_take, if_pos (by omega), List.getElem?_eq_getElem (by omega)] at ho
            cases ho
            exact ⟨qf, rfl, .inl (.inl eft), (hd _ (List.getElem_mem _)).opd⟩
        · rw [ht1] at hi
          obtain rfl : i = 0 := by omega
          have := hrun 0 (by omega)
          rw [List.getD_eq_getElem?_getD, List.getElem?_take, if_pos (by omega), ← List.getD_eq_getElem?_getD]
          exact this
        rw [stepsO_take (by omega), ht1] at lir
        have W44 := W43.same s44
        refine ⟨ra2, rd2, ru2, rain, bs, _, _, _, rfl, lir, pk.row, pk.nodup, mo 1 hN1, by rw [stepsO_len]; decide, fun pt7 H45 s45 npt7 tol11 => ?_⟩
        have tol12 := tol11 [] (fun b hb => by cases hb)
        rw [stepsO_fst (by omega)] at tol12
        obtain ⟨qs7, pj7, u1, u3, u4, tolj7⟩ := (W44.same s45).seen.at hN1
        obtain ⟨va, vb, va1, vb1, hpd⟩ := tol_eq (K := K) pk.nodup (names_ok pk) hplt tol12 tolj7
        exact ⟨_, rfl, se, qs7, _, _, rfl, rfl, SqL.of u1, at_of (j := 1) rfl u4, 5, by decide, .inl ⟨_, _, _, _, rfl, rfl, SqL.of va1, SqL.of vb1, hpd⟩, k _⟩
theorem ops_of {OPSA o1 o2 o3 o4 : Addr} {d d1 d2 d3 d4 : Option Addr} {m m1 m2 m3 m4 : Nat} {sl sl1 sl2 sl3 sl4 : Array (Option Value)} {t1 t2 t3 t4 : _} {i1 i2 i3 i4 : _} (hm : mg "OPERATIONS" = some (.ref OPSA)) (l : K.lookup OPSA = some ⟨.type "tuple", d, .seq #[.ref o1, .ref o2, .ref o3, .ref o4] m, sl⟩)
    (l1 : K.lookup o1 = some ⟨.type "tuple", d1, .seq #[.str "pour" t1, .int 1 i1] m1, sl1⟩) (l2 : K.lookup o2 = some ⟨.type "tuple", d2, .seq #[.str "scoop" t2, .int 2 i2] m2, sl2⟩) (l3 : K.lookup o3 = some ⟨.type "tuple", d3, .seq #[.str "lock" t3, .int 1 i3] m3, sl3⟩) (l4 : K.lookup o4 = some ⟨.type "tuple", d4, .seq #[.str "unlock" t4, .int 1 i4] m4, sl4⟩) : OpsG K mg OPSA := by
  have two : ∀ {H : Hp} {a : Addr} {z : Str} {i : Int} {d : Option Addr} {m : Nat} {sl : Array (Option Value)} {t t'}, K.lookup a = some ⟨.type "tuple", d, .seq #[.str z t, .int i t'] m, sl⟩ → Dp K H (.ref a) (.tuple [.str z, .int i]) := fun {H a z i d m sl t t'} e =>
    .tup (xs := [.str z, .int i]) (.inr ⟨_, _, _, e, rfl, rfl, by show 2 ≤ sizeLine; decide, .cons ⟨t, rfl⟩ (.cons ⟨t', rfl⟩ .nil)⟩) (.cons (.str _) (.cons (.int _) .nil))
  exact ⟨hm, fun H => .tup (xs := [.ref o1, .ref o2, .ref o3, .ref o4]) (.inr ⟨_, _, _, l, rfl, rfl, by show 4 ≤ sizeLine; decide, .cons rfl (.cons rfl (.cons rfl (.cons rfl .nil)))⟩) (.cons (two l1) (.cons (two l2) (.cons (two l3) (.cons (two l4) .nil))))⟩
end
end Bk
set_option Elab.async false
set_option maxRecDepth 100000
set_option maxHeartbeats 1000000
namespace Bk
open PySem L2
theorem all_mk {l : PySem.W.OpenLaw} {w : World} {K : PySem.W.Frag} {h : Heap} {mg : Str → Option Value} {fa CP CR CV CM CU CO CN CS ce0 ce1 ce4 ce5 ce6 f1 f2 f3 f4 f5 f6 f7 f8 f9 f10 f11 f12 f13 f14 f15 f16 f17 f18 f19 f20 f21 f22 f23 f24 f25 f26 f27 f28 f29 f30 f31 f32 f33 f34 f35 f36 f37 f38 f39 f40 f41 f42 f43 f44 f45 f46 f47 f48 f49 : Addr} (X : K.In h) (G : h.Ns mainGlobals mg) (hfa : mg "law" = some (.ref fa))
    {nmCU qCU : Str} {NCU : Addr} {bsCU bmCU : List Value} {snCU : List Str} {subCU : List Value} {abCU : Bool} {colCU : Option Bool} {ddCU : Option Addr} {m0CU m1CU m2CU m3CU m5CU : Option Value}
    {fiCU cdaCU ccCU : Addr} {ociCU dociCU pmiCU ctiCU cclCU cecCU : Value} {odiCU cddCU cedCU : Option Addr} {sliCU ccsCU cesCU : Array (Option Value)} {vsCU : Array Value} {flCU : Str} {tfCU : Tok}
    {nmCO qCO : Str} {NCO : Addr} {bsCO bmCO : List Value} {snCO : List Str} {subCO : List Value} {abCO : Bool} {colCO : Option Bool} {ddCO : Option Addr} {m0CO m1CO m2CO m3CO m5CO : Option Value}
    {fiCO cdaCO ccCO : Addr} {ociCO dociCO pmiCO ctiCO cclCO cecCO : Value} {odiCO cddCO cedCO : Option Addr} {sliCO ccsCO cesCO : Array (Option Value)} {vsCO : Array Value} {flCO : Str} {tfCO : Tok}
    {od1 an1 : Option Addr} {sl1 : Array (Option Value)} {oc1 kV1 dc1 pm1 cd1 ct1 : Value}
    {od2 an2 : Option Addr} {sl2 : Array (Option Value)} {oc2 kV2 dc2 pm2 cd2 ct2 : Value}
    {od3 an3 : Option Addr} {sl3 : Array (Option Value)} {oc3 kV3 dc3 pm3 cd3 ct3 : Value}
    {od4 an4 : Option Addr} {sl4 : Array (Option Value)} {oc4 kV4 dc4 pm4 cd4 ct4 : Value}
    {od5 an5 : Option Addr} {sl5 : Array (Option Value)} {oc5 kV5 dc5 pm5 cd5 ct5 : Value}
    {od6 an6 : Option Addr} {sl6 : Array (Option Value)} {oc6 kV6 dc6 pm6 cd6 ct6 : Value}
    {od7 an7 : Option Addr} {sl7 : Array (Option Value)} {oc7 kV7 dc7 pm7 cd7 ct7 : Value}
    {od8 an8 : Option Addr} {sl8 : Array (Option Value)} {oc8 kV8 dc8 pm8 cd8 ct8 : Value}
    {p9 : Addr} {rs9 : List Value}
    {od9 an9 : Option Addr} {sl9 : Array (Option Value)} {oc9 kV9 dc9 pm9 cd9 ct9 : Value}
    {p10 : Addr} {rs10 : List Value}
    {od10 an10 : Option Addr} {sl10 : Array (Option Value)} {oc10 kV10 dc10 pm10 cd10 ct10 : Value}
    {p11 : Addr} {rs11 : List Value}
    {od11 an11 : Option Addr} {sl11 : Array (Option Value)} {oc11 kV11 dc11 pm11 cd11 ct11 : Value}
    {od12 an12 : Option Addr} {sl12 : Array (Option Value)} {oc12 kV12 dc12 pm12 cd12 ct12 : Value}
    {od13 an13 : Option Addr} {sl13 : Array (Option Value)} {oc13 kV13 dc13 pm13 cd13 ct13 : Value}
    {od14 an14 : Option Addr} {sl14 : Array (Option Value)} {oc14 kV14 dc14 pm14 cd14 ct14 : Value}
    {od15 an15 : Option Addr} {sl15 : Array (Option Value)} {oc15 kV15 dc15 pm15 cd15 ct15 : Value}
    {od16 an16 : Option Addr} {sl16 : Array (Option Value)} {oc16 kV16 dc16 pm16 cd16 ct16 : Value}
    {od17 an17 : Option Addr} {sl17 : Array (Option Value)} {oc17 kV17 dc17 pm17 cd17 ct17 : Value}
    {od18 an18 : Option Addr} {sl18 : Array (Option Value)} {oc18 kV18 dc18 pm18 cd18 ct18 : Value}
    {od19 an19 : Option Addr} {sl19 : Array (Option Value)} {oc19 kV19 dc19 pm19 cd19 ct19 : Value}
    {od20 an20 : Option Addr} {sl20 : Array (Option Value)} {oc20 kV20 dc20 pm20 cd20 ct20 : Value}
    {od21 an21 : Option Addr} {sl21 : Array (Option Value)} {oc21 kV21 dc21 pm21 cd21 ct21 : Value}
    {od22 an22 : Option Addr} {sl22 : Array (Option Value)} {oc22 kV22 dc22 pm22 cd22 ct22 : Value}
    {od23 an23 : Option Addr} {sl23 : Array (Option Value)} {oc23 kV23 dc23 pm23 cd23 ct23 : Value}
    {od24 an24 : Option Addr} {sl24 : Array (Option Value)} {oc24 kV24 dc24 pm24 cd24 ct24 : Value}
    {od25 an25 : Option Addr} {sl25 : Array (Option Value)} {oc25 kV25 dc25 pm25 cd25 ct25 : Value}
    {od26 an26 : Option Addr} {sl26 : Array (Option Value)} {oc26 kV26 dc26 pm26 cd26 ct26 : Value}
    {od27 an27 : Option Addr} {sl27 : Array (Option Value)} {oc27 kV27 dc27 pm27 cd27 ct27 : Value}
    {p28 : Addr} {rs28 : List Value}
    {od28 an28 : Option Addr} {sl28 : Array (Option Value)} {oc28 kV28 dc28 pm28 cd28 ct28 : Value}
    {p29 : Addr} {rs29 : List Value}
    {od29 an29 : Option Addr} {sl29 : Array (Option Value)} {oc29 kV29 dc29 pm29 cd29 ct29 : Value}
    {p30 : Addr} {rs30 : List Value}
    {od30 an30 : Option Addr} {sl30 : Array (Option Value)} {oc30 kV30 dc30 pm30 cd30 ct30 : Value}
    {p31 : Addr} {rs31 : List Value}
    {od31 an31 : Option Addr} {sl31 : Array (Option Value)} {oc31 kV31 dc31 pm31 cd31 ct31 : Value}
    {p32 : Addr} {rs32 : List Value}
    {od32 an32 : Option Addr} {sl32 : Array (Option Value)} {oc32 kV32 dc32 pm32 cd32 ct32 : Value}
    {p33 : Addr} {rs33 : List Value}
    {od33 an33 : Option Addr} {sl33 : Array (Option Value)} {oc33 kV33 dc33 pm33 cd33 ct33 : Value}
    {od34 an34 : Option Addr} {sl34 : Array (Option Value)} {oc34 kV34 dc34 pm34 cd34 ct34 : Value}
    {od35 an35 : Option Addr} {sl35 : Array (Option Value)} {oc35 kV35 dc35 pm35 cd35 ct35 : Value}
    {od36 an36 : Option Addr} {sl36 : Array (Option Value)} {oc36 kV36 dc36 pm36 cd36 ct36 : Value}
    {od37 an37 : Option Addr} {sl37 : Array (Option Value)} {oc37 kV37 dc37 pm37 cd37 ct37 : Value}
    {od38 an38 : Option Addr} {sl38 : Array (Option Value)} {oc38 kV38 dc38 pm38 cd38 ct38 : Value}
    {od39 an39 : Option Addr} {sl39 : Array (Option Value)} {oc39 kV39 dc39 pm39 cd39 ct39 : Value}
    {p40 : Addr} {rs40 : List Value}
    {od40 an40 : Option Addr} {sl40 : Array (Option Value)} {oc40 kV40 dc40 pm40 cd40 ct40 : Value}
    {od41 an41 : Option Addr} {sl41 : Array (Option Value)} {oc41 kV41 dc41 pm41 cd41 ct41 : Value}
    {od42 an42 : Option Addr} {sl42 : Array (Option Value)} {oc42 kV42 dc42 pm42 cd42 ct42 : Value}
    {od43 an43 : Option Addr} {sl43 : Array (Option Value)} {oc43 kV43 dc43 pm43 cd43 ct43 : Value}
    {od44 an44 : Option Addr} {sl44 : Array (Option Value)} {oc44 kV44 dc44 pm44 cd44 ct44 : Value}
    {od45 an45 : Option Addr} {sl45 : Array (Option Value)} {oc45 kV45 dc45 pm45 cd45 ct45 : Value}
    {od46 an46 : Option Addr} {sl46 : Array (Option Value)} {oc46 kV46 dc46 pm46 cd46 ct46 : Value}
    {od47 an47 : Option Addr} {sl47 : Array (Option Value)} {oc47 kV47 dc47 pm47 cd47 ct47 : Value}
    {od48 an48 : Option Addr} {sl48 : Array (Option Value)} {oc48 kV48 dc48 pm48 cd48 ct48 : Value}
    {od49 an49 : Option Addr} {sl49 : Array (Option Value)} {oc49 kV49 dc49 pm49 cd49 ct49 : Value}
    {cW QW : Addr} {occW : _} {odcW : _} {vscW : Array Value} {slcW : _}
    {tg0 : _}
    {tg1 : _}
    {tg2 : _}
    {tg3 : _}
    {tg4 : _}
    {tg5 : _}
    {tg6 : _}
    {tg7 : _}
    {tv1 tv2 : _}
    {OPSA op1 op2 op3 op4 : Addr} {odP od1P od2P od3P od4P : Option Addr} {nP n1P n2P n3P n4P : Nat} {slP sl1P sl2P sl3P sl4P : Array (Option Value)} {ts1P ts2P ts3P ts4P ti1P ti2P ti3P ti4P : _}
    (aCP : PySem.W.nsIn K mainGlobals "Passage" = some (some (.ref CP)))
    (aCR : PySem.W.nsIn K mainGlobals "Row" = some (some (.ref CR)))
    (aCV : PySem.W.nsIn K mainGlobals "LiveRow" = some (some (.ref CV)))
    (aCM : PySem.W.nsIn K mainGlobals "Moment" = some (some (.ref CM)))
    (aCU : PySem.W.nsIn K mainGlobals "UnknownBarrel" = some (some (.ref CU)))
    (xoCU : K.lookup CU = some (excClassObj nmCU qCU CU NCU bsCU bmCU true snCU subCU abCU colCU ddCU m0CU m1CU m2CU m3CU m5CU "ValueError.__new__"))
    (xrCU : PySem.HandSPX.refsVE bmCU = true)
    (xsCU : PySem.W.findIn K (.ref CU) "__setattr__" = some (some (.builtin "object.__setattr__")))
    (xeCU : PySem.W.subIn K (.ref CU) (.type "BaseException") = some true)
    (xtCU : PySem.W.typeIn K (.ref CU) = some (.type "type"))
    (xkCU : PySem.W.keepIn K (.ref CU) = true)
    (xaCU : PySem.W.findIn K (.ref CU) "__getattribute__" = some (some (.builtin "BaseException.__getattribute__")))
    (xgCU : PySem.W.findIn K (.ref CU) "__getattr__" = some none)
    (xhCU : PySem.W.hasDictIn K CU = true)
    (xmCU : PySem.W.exmOne K (.ref CU) (.ref CU) = some true)
    (xfCUname : PySem.W.findIn K (.ref CU) "name" = some none)
    (xiCU : PySem.W.findIn K (.ref CU) "__init__" = some (some (.ref fiCU)))
    (xjCU : PySem.W.typeIn K (.ref fiCU) = some (.type "function"))
    (xlCU : K.lookup fiCU = some ⟨ociCU, odiCU, .func ((exF s_UnknownBarrel_init "UnknownBarrel.__init__" cdaCU ccCU).fd dociCU pmiCU ctiCU), sliCU⟩)
    (xcCU : PySem.W.codeIn K (.ref cdaCU) "UnknownBarrel.__init__" = true)
    (xdCU : K.lookup cdaCU = some ⟨cclCU, cddCU, .fields vsCU, ccsCU⟩)
    (xvCU : vsCU[2]? = some (.str flCU tfCU))
    (xwCU : ((l.prog.main.file : Str) == flCU) = true)
    (xxCU : K.lookup ccCU = some ⟨cecCU, cedCU, .cell (some (.ref CU)), cesCU⟩)
    (xyCU : PySem.W.mroIn K CU (.ref CU) = some true)
    (xpCU : PySem.W.ks_superIn K CU CU "__init__" = some (some (.builtin "ValueError.__init__")))
    (xqCU : PySem.W.subIn K (.ref CU) (.type "ValueError") = some true)
    (aCO : PySem.W.nsIn K mainGlobals "InvalidOperation" = some (some (.ref CO)))
    (xoCO : K.lookup CO = some (excClassObj nmCO qCO CO NCO bsCO bmCO true snCO subCO abCO colCO ddCO m0CO m1CO m2CO m3CO m5CO "ValueError.__new__"))
    (xrCO : PySem.HandSPX.refsVE bmCO = true)
    (xsCO : PySem.W.findIn K (.ref CO) "__setattr__" = some (some (.builtin "object.__setattr__")))
    (xeCO : PySem.W.subIn K (.ref CO) (.type "BaseException") = some true)
    (xtCO : PySem.W.typeIn K (.ref CO) = some (.type "type"))
    (xkCO : PySem.W.keepIn K (.ref CO) = true)
    (xaCO : PySem.W.findIn K (.ref CO) "__getattribute__" = some (some (.builtin "BaseException.__getattribute__")))
    (xgCO : PySem.W.findIn K (.ref CO) "__getattr__" = some none)
    (xhCO : PySem.W.hasDictIn K CO = true)
    (xmCO : PySem.W.exmOne K (.ref CO) (.ref CO) = some true)
    (xfCOindex : PySem.W.findIn K (.ref CO) "index" = some none)
    (xiCO : PySem.W.findIn K (.ref CO) "__init__" = some (some (.ref fiCO)))
    (xjCO : PySem.W.typeIn K (.ref fiCO) = some (.type "function"))
    (xlCO : K.lookup fiCO = some ⟨ociCO, odiCO, .func ((exF s_InvalidOperation_init "InvalidOperation.__init__" cdaCO ccCO).fd dociCO pmiCO ctiCO), sliCO⟩)
    (xcCO : PySem.W.codeIn K (.ref cdaCO) "InvalidOperation.__init__" = true)
    (xdCO : K.lookup cdaCO = some ⟨cclCO, cddCO, .fields vsCO, ccsCO⟩)
    (xvCO : vsCO[2]? = some (.str flCO tfCO))
    (xwCO : ((l.prog.main.file : Str) == flCO) = true)
    (xxCO : K.lookup ccCO = some ⟨cecCO, cedCO, .cell (some (.ref CO)), cesCO⟩)
    (xyCO : PySem.W.mroIn K CO (.ref CO) = some true)
    (xpCO : PySem.W.ks_superIn K CO CO "__init__" = some (some (.builtin "ValueError.__init__")))
    (xqCO : PySem.W.subIn K (.ref CO) (.type "ValueError") = some true)
    (aCN : PySem.W.nsIn K mainGlobals "InvalidNumber" = some (some (.ref CN)))
    (xnCN : PySem.W.excIn K CN PySem.HandSPX.veTail "ValueError.__new__" = true)
    (xeCN : PySem.W.subIn K (.ref CN) (.type "BaseException") = some true)
    (xtCN : PySem.W.typeIn K (.ref CN) = some (.type "type"))
    (xkCN : PySem.W.keepIn K (.ref CN) = true)
    (xaCN : PySem.W.findIn K (.ref CN) "__getattribute__" = some (some (.builtin "BaseException.__getattribute__")))
    (xgCN : PySem.W.findIn K (.ref CN) "__getattr__" = some none)
    (xhCN : PySem.W.hasDictIn K CN = true)
    (aCS : PySem.W.nsIn K mainGlobals "RowError" = some (some (.ref CS)))
    (ace0 : PySem.W.nsIn K mainGlobals "DaybookError" = some (some (.ref ce0)))
    (ace1 : PySem.W.nsIn K mainGlobals "DecodeError" = some (some (.ref ce1)))
    (ace4 : PySem.W.nsIn K mainGlobals "InvalidRow" = some (some (.ref ce4)))
    (ace5 : PySem.W.nsIn K mainGlobals "InvalidText" = some (some (.ref ce5)))
    (ace6 : PySem.W.nsIn K mainGlobals "InvalidWeather" = some (some (.ref ce6)))
    (nVE : PySem.W.nsIn K mainGlobals "ValueError" = some none)
    (xcn : PySem.W.specialIn K (.builtin "object.__class__") "__get__" = some (some (.builtin "getset_descriptor.__get__")))
    (xct : PySem.W.takesIn K (.builtin "object.__class__") = some true)
    (xlCOc : PySem.W.findIn K (.ref CO) "__class__" = some (some (.builtin "object.__class__")))
    (xoCOm : PySem.W.mroIn K CO (.type "object") = some true)
    (xsCOx : PySem.W.exmOne K (.ref CO) (.ref CS) = some true)
    (xvCOe : PySem.W.kitOne K (.ref CO) (.type "ValueError") = some true)
    (xqCO0 : PySem.W.kitOne K (.ref CO) (.ref ce0) = some false)
    (xqCO1 : PySem.W.kitOne K (.ref CO) (.ref ce1) = some false)
    (xqCO2 : PySem.W.kitOne K (.ref CO) (.ref CN) = some false)
    (xqCO3 : PySem.W.kitOne K (.ref CO) (.ref CO) = some true)
    (xqCO4 : PySem.W.kitOne K (.ref CO) (.ref ce4) = some false)
    (xqCO5 : PySem.W.kitOne K (.ref CO) (.ref ce5) = some false)
    (xqCO6 : PySem.W.kitOne K (.ref CO) (.ref ce6) = some false)
    (xqCO7 : PySem.W.kitOne K (.ref CO) (.ref CU) = some false)
    (xlCUc : PySem.W.findIn K (.ref CU) "__class__" = some (some (.builtin "object.__class__")))
    (xoCUm : PySem.W.mroIn K CU (.type "object") = some true)
    (xsCUx : PySem.W.exmOne K (.ref CU) (.ref CS) = some true)
    (xvCUe : PySem.W.kitOne K (.ref CU) (.type "ValueError") = some true)
    (xqCU0 : PySem.W.kitOne K (.ref CU) (.ref ce0) = some false)
    (xqCU1 : PySem.W.kitOne K (.ref CU) (.ref ce1) = some false)
    (xqCU2 : PySem.W.kitOne K (.ref CU) (.ref CN) = some false)
    (xqCU3 : PySem.W.kitOne K (.ref CU) (.ref CO) = some false)
    (xqCU4 : PySem.W.kitOne K (.ref CU) (.ref ce4) = some false)
    (xqCU5 : PySem.W.kitOne K (.ref CU) (.ref ce5) = some false)
    (xqCU6 : PySem.W.kitOne K (.ref CU) (.ref ce6) = some false)
    (xqCU7 : PySem.W.kitOne K (.ref CU) (.ref CU) = some true)
    (nsup : PySem.W.nsIn K mainGlobals "super" = some none)
    (xtop : (l.prog.main.scope.names.lookup ("super" : Str)).isSome = false)
    (xtp : PySem.W.nsIn K PySem.cStatics "thirdparty.any" = some none)
    (a1 : PySem.W.nsIn K mainGlobals "is_number" = some (some (.ref f1)))
    (l1 : K.lookup f1 = some ⟨oc1, od1, .func (PySem.W.fnOf "is_number" "is_number" (defArgs s_is_number) (defBody s_is_number) (defScope s_is_number) .none kV1 dc1 pm1 an1 cd1 ct1), sl1⟩)
    (c1 : PySem.W.codeIn K cd1 "is_number" = true)
    (k1 : PySem.W.keepIn K (.ref f1) = true)
    (a2 : PySem.W.nsIn K mainGlobals "is_name" = some (some (.ref f2)))
    (l2 : K.lookup f2 = some ⟨oc2, od2, .func (PySem.W.fnOf "is_name" "is_name" (defArgs s_is_name) (defBody s_is_name) (defScope s_is_name) .none kV2 dc2 pm2 an2 cd2 ct2), sl2⟩)
    (c2 : PySem.W.codeIn K cd2 "is_name" = true)
    (k2 : PySem.W.keepIn K (.ref f2) = true)
    (a3 : PySem.W.nsIn K mainGlobals "is_barrel" = some (some (.ref f3)))
    (l3 : K.lookup f3 = some ⟨oc3, od3, .func (PySem.W.fnOf "is_barrel" "is_barrel" (defArgs s_is_barrel) (defBody s_is_barrel) (defScope s_is_barrel) .none kV3 dc3 pm3 an3 cd3 ct3), sl3⟩)
    (c3 : PySem.W.codeIn K cd3 "is_barrel" = true)
    (k3 : PySem.W.keepIn K (.ref f3) = true)
    (a4 : PySem.W.nsIn K mainGlobals "check_rain" = some (some (.ref f4)))
    (l4 : K.lookup f4 = some ⟨oc4, od4, .func (PySem.W.fnOf "check_rain" "check_rain" (defArgs s_check_rain) (defBody s_check_rain) (defScope s_check_rain) .none kV4 dc4 pm4 an4 cd4 ct4), sl4⟩)
    (c4 : PySem.W.codeIn K cd4 "check_rain" = true)
    (k4 : PySem.W.keepIn K (.ref f4) = true)
    (a5 : PySem.W.nsIn K mainGlobals "check_barrels" = some (some (.ref f5)))
    (l5 : K.lookup f5 = some ⟨oc5, od5, .func (PySem.W.fnOf "check_barrels" "check_barrels" (defArgs s_check_barrels) (defBody s_check_barrels) (defScope s_check_barrels) .none kV5 dc5 pm5 an5 cd5 ct5), sl5⟩)
    (c5 : PySem.W.codeIn K cd5 "check_barrels" = true)
    (k5 : PySem.W.keepIn K (.ref f5) = true)
    (a6 : PySem.W.findIn K (.ref CP) "let_in" = some (some (.ref f6)))
    (i6 : PySem.W.isFn K (.ref f6) = true)
    (l6 : K.lookup f6 = some ⟨oc6, od6, .func (PySem.W.fnOf "let_in" "Passage.let_in" (defArgs s_Passage_let_in) (defBody s_Passage_let_in) (defScope s_Passage_let_in) .none kV6 dc6 pm6 an6 cd6 ct6), sl6⟩)
    (c6 : PySem.W.codeIn K cd6 "Passage.let_in" = true)
    (k6 : PySem.W.keepIn K (.ref f6) = true)
    (a7 : PySem.W.findIn K (.ref CP) "__init__" = some (some (.ref f7)))
    (i7 : PySem.W.isFn K (.ref f7) = true)
    (l7 : K.lookup f7 = some ⟨oc7, od7, .func (PySem.W.fnOf "__init__" "Passage.__init__" (defArgs s_Passage_init) (defBody s_Passage_init) (defScope s_Passage_init) .none kV7 dc7 pm7 an7 cd7 ct7), sl7⟩)
    (c7 : PySem.W.codeIn K cd7 "Passage.__init__" = true)
    (k7 : PySem.W.keepIn K (.ref f7) = true)
    (a8 : PySem.W.findIn K (.ref CR) "__init__" = some (some (.ref f8)))
    (i8 : PySem.W.isFn K (.ref f8) = true)
    (l8 : K.lookup f8 = some ⟨oc8, od8, .func (PySem.W.fnOf "__init__" "Row.__init__" (defArgs s_Row_init) (defBody s_Row_init) (defScope s_Row_init) .none kV8 dc8 pm8 an8 cd8 ct8), sl8⟩)
    (c8 : PySem.W.codeIn K cd8 "Row.__init__" = true)
    (k8 : PySem.W.keepIn K (.ref f8) = true)
    (a9 : PySem.W.findIn K (.ref CR) "rain" = some (some (.ref p9)))
    (g9 : PySem.W.specialIn K (.ref p9) "__get__" = some (some (.builtin "property.__get__")))
    (t9 : PySem.W.takesIn K (.ref p9) = some true)
    (r9 : PySem.W.recIn K p9 "property" = some (.ref f9 :: rs9))
    (l9 : K.lookup f9 = some ⟨oc9, od9, .func (PySem.W.fnOf "rain" "Row.rain" (defArgs s_Row_rain) (defBody s_Row_rain) (defScope s_Row_rain) .none kV9 dc9 pm9 an9 cd9 ct9), sl9⟩)
    (c9 : PySem.W.codeIn K cd9 "Row.rain" = true)
    (k9 : PySem.W.keepIn K (.ref f9) = true)
    (a10 : PySem.W.findIn K (.ref CR) "barrels" = some (some (.ref p10)))
    (g10 : PySem.W.specialIn K (.ref p10) "__get__" = some (some (.builtin "property.__get__")))
    (t10 : PySem.W.takesIn K (.ref p10) = some true)
    (r10 : PySem.W.recIn K p10 "property" = some (.ref f10 :: rs10))
    (l10 : K.lookup f10 = some ⟨oc10, od10, .func (PySem.W.fnOf "barrels" "Row.barrels" (defArgs s_Row_barrels) (defBody s_Row_barrels) (defScope s_Row_barrels) .none kV10 dc10 pm10 an10 cd10 ct10), sl10⟩)
    (c10 : PySem.W.codeIn K cd10 "Row.barrels" = true)
    (k10 : PySem.W.keepIn K (.ref f10) = true)
    (a11 : PySem.W.findIn K (.ref CR) "names" = some (some (.ref p11)))
    (g11 : PySem.W.specialIn K (.ref p11) "__get__" = some (some (.builtin "property.__get__")))
    (t11 : PySem.W.takesIn K (.ref p11) = some true)
    (r11 : PySem.W.recIn K p11 "property" = some (.ref f11 :: rs11))
    (l11 : K.lookup f11 = some ⟨oc11, od11, .func (PySem.W.fnOf "names" "Row.names" (defArgs s_Row_names) (defBody s_Row_names) (defScope s_Row_names) .none kV11 dc11 pm11 an11 cd11 ct11), sl11⟩)
    (c11 : PySem.W.codeIn K cd11 "Row.names" = true)
    (k11 : PySem.W.keepIn K (.ref f11) = true)
    (a12 : PySem.W.findIn K (.ref CR) "__add__" = some (some (.ref f12)))
    (i12 : PySem.W.isFn K (.ref f12) = true)
    (n12 : PySem.W.fnIn K f12 = true)
    (l12 : K.lookup f12 = some ⟨oc12, od12, .func (PySem.W.fnOf "__add__" "Row.__add__" (defArgs s_Row_add) (defBody s_Row_add) (defScope s_Row_add) .none kV12 dc12 pm12 an12 cd12 ct12), sl12⟩)
    (c12 : PySem.W.codeIn K cd12 "Row.__add__" = true)
    (k12 : PySem.W.keepIn K (.ref f12) = true)
    (a13 : PySem.W.findIn K (.ref CR) "__len__" = some (some (.ref f13)))
    (i13 : PySem.W.isFn K (.ref f13) = true)
    (n13 : PySem.W.fnIn K f13 = true)
    (l13 : K.lookup f13 = some ⟨oc13, od13, .func (PySem.W.fnOf "__len__" "Row.__len__" (defArgs s_Row_len) (defBody s_Row_len) (defScope s_Row_len) .none kV13 dc13 pm13 an13 cd13 ct13), sl13⟩)
    (c13 : PySem.W.codeIn K cd13 "Row.__len__" = true)
    (k13 : PySem.W.keepIn K (.ref f13) = true)
    (a14 : PySem.W.nsIn K mainGlobals "pass_ticks" = some (some (.ref f14)))
    (l14 : K.lookup f14 = some ⟨oc14, od14, .func (PySem.W.fnOf "pass_ticks" "pass_ticks" (defArgs s_pass_ticks) (defBody s_pass_ticks) (defScope s_pass_ticks) .none kV14 dc14 pm14 an14 cd14 ct14), sl14⟩)
    (c14 : PySem.W.codeIn K cd14 "pass_ticks" = true)
    (k14 : PySem.W.keepIn K (.ref f14) = true)
    (a15 : PySem.W.nsIn K mainGlobals "check_number" = some (some (.ref f15)))
    (l15 : K.lookup f15 = some ⟨oc15, od15, .func (PySem.W.fnOf "check_number" "check_number" (defArgs s_check_number) (defBody s_check_number) (defScope s_check_number) .none kV15 dc15 pm15 an15 cd15 ct15), sl15⟩)
    (c15 : PySem.W.codeIn K cd15 "check_number" = true)
    (k15 : PySem.W.keepIn K (.ref f15) = true)
    (a16 : PySem.W.nsIn K mainGlobals "place_of" = some (some (.ref f16)))
    (l16 : K.lookup f16 = some ⟨oc16, od16, .func (PySem.W.fnOf "place_of" "place_of" (defArgs s_place_of) (defBody s_place_of) (defScope s_place_of) .none kV16 dc16 pm16 an16 cd16 ct16), sl16⟩)
    (c16 : PySem.W.codeIn K cd16 "place_of" = true)
    (k16 : PySem.W.keepIn K (.ref f16) = true)
    (a17 : PySem.W.findIn K (.ref CM) "__init__" = some (some (.ref f17)))
    (i17 : PySem.W.isFn K (.ref f17) = true)
    (l17 : K.lookup f17 = some ⟨oc17, od17, .func (PySem.W.fnOf "__init__" "Moment.__init__" (defArgs s_Moment_init) (defBody s_Moment_init) (defScope s_Moment_init) .none kV17 dc17 pm17 an17 cd17 ct17), sl17⟩)
    (c17 : PySem.W.codeIn K cd17 "Moment.__init__" = true)
    (k17 : PySem.W.keepIn K (.ref f17) = true)
    (a18 : PySem.W.nsIn K mainGlobals "after_tick" = some (some (.ref f18)))
    (l18 : K.lookup f18 = some ⟨oc18, od18, .func (PySem.W.fnOf "after_tick" "after_tick" (defArgs s_after_tick) (defBody s_after_tick) (defScope s_after_tick) .none kV18 dc18 pm18 an18 cd18 ct18), sl18⟩)
    (c18 : PySem.W.codeIn K cd18 "after_tick" = true)
    (k18 : PySem.W.keepIn K (.ref f18) = true)
    (a19 : PySem.W.nsIn K mainGlobals "after_scoop" = some (some (.ref f19)))
    (l19 : K.lookup f19 = some ⟨oc19, od19, .func (PySem.W.fnOf "after_scoop" "after_scoop" (defArgs s_after_scoop) (defBody s_after_scoop) (defScope s_after_scoop) .none kV19 dc19 pm19 an19 cd19 ct19), sl19⟩)
    (c19 : PySem.W.codeIn K cd19 "after_scoop" = true)
    (k19 : PySem.W.keepIn K (.ref f19) = true)
    (a20 : PySem.W.nsIn K mainGlobals "after_turn" = some (some (.ref f20)))
    (l20 : K.lookup f20 = some ⟨oc20, od20, .func (PySem.W.fnOf "after_turn" "after_turn" (defArgs s_after_turn) (defBody s_after_turn) (defScope s_after_turn) .none kV20 dc20 pm20 an20 cd20 ct20), sl20⟩)
    (c20 : PySem.W.codeIn K cd20 "after_turn" = true)
    (k20 : PySem.W.keepIn K (.ref f20) = true)
    (a21 : PySem.W.findIn K (.ref CV) "_go_on" = some (some (.ref f21)))
    (i21 : PySem.W.isFn K (.ref f21) = true)
    (l21 : K.lookup f21 = some ⟨oc21, od21, .func (PySem.W.fnOf "_go_on" "LiveRow._go_on" (defArgs s_LiveRow_go_on) (defBody s_LiveRow_go_on) (defScope s_LiveRow_go_on) .none kV21 dc21 pm21 an21 cd21 ct21), sl21⟩)
    (c21 : PySem.W.codeIn K cd21 "LiveRow._go_on" = true)
    (k21 : PySem.W.keepIn K (.ref f21) = true)
    (a22 : PySem.W.findIn K (.ref CV) "pour" = some (some (.ref f22)))
    (i22 : PySem.W.isFn K (.ref f22) = true)
    (l22 : K.lookup f22 = some ⟨oc22, od22, .func (PySem.W.fnOf "pour" "LiveRow.pour" (defArgs s_LiveRow_pour) (defBody s_LiveRow_pour) (defScope s_LiveRow_pour) .none kV22 dc22 pm22 an22 cd22 ct22), sl22⟩)
    (c22 : PySem.W.codeIn K cd22 "LiveRow.pour" = true)
    (k22 : PySem.W.keepIn K (.ref f22) = true)
    (a23 : PySem.W.findIn K (.ref CV) "scoop" = some (some (.ref f23)))
    (i23 : PySem.W.isFn K (.ref f23) = true)
    (l23 : K.lookup f23 = some ⟨oc23, od23, .func (PySem.W.fnOf "scoop" "LiveRow.scoop" (defArgs s_LiveRow_scoop) (defBody s_LiveRow_scoop) (defScope s_LiveRow_scoop) .none kV23 dc23 pm23 an23 cd23 ct23), sl23⟩)
    (c23 : PySem.W.codeIn K cd23 "LiveRow.scoop" = true)
    (k23 : PySem.W.keepIn K (.ref f23) = true)
    (a24 : PySem.W.findIn K (.ref CV) "_turn" = some (some (.ref f24)))
    (i24 : PySem.W.isFn K (.ref f24) = true)
    (l24 : K.lookup f24 = some ⟨oc24, od24, .func (PySem.W.fnOf "_turn" "LiveRow._turn" (defArgs s_LiveRow_turn) (defBody s_LiveRow_turn) (defScope s_LiveRow_turn) .none kV24 dc24 pm24 an24 cd24 ct24), sl24⟩)
    (c24 : PySem.W.codeIn K cd24 "LiveRow._turn" = true)
    (k24 : PySem.W.keepIn K (.ref f24) = true)
    (a25 : PySem.W.findIn K (.ref CV) "lock" = some (some (.ref f25)))
    (i25 : PySem.W.isFn K (.ref f25) = true)
    (l25 : K.lookup f25 = some ⟨oc25, od25, .func (PySem.W.fnOf "lock" "LiveRow.lock" (defArgs s_LiveRow_lock) (defBody s_LiveRow_lock) (defScope s_LiveRow_lock) .none kV25 dc25 pm25 an25 cd25 ct25), sl25⟩)
    (c25 : PySem.W.codeIn K cd25 "LiveRow.lock" = true)
    (k25 : PySem.W.keepIn K (.ref f25) = true)
    (a26 : PySem.W.findIn K (.ref CV) "unlock" = some (some (.ref f26)))
    (i26 : PySem.W.isFn K (.ref f26) = true)
    (l26 : K.lookup f26 = some ⟨oc26, od26, .func (PySem.W.fnOf "unlock" "LiveRow.unlock" (defArgs s_LiveRow_unlock) (defBody s_LiveRow_unlock) (defScope s_LiveRow_unlock) .none kV26 dc26 pm26 an26 cd26 ct26), sl26⟩)
    (c26 : PySem.W.codeIn K cd26 "LiveRow.unlock" = true)
    (k26 : PySem.W.keepIn K (.ref f26) = true)
    (a27 : PySem.W.findIn K (.ref CV) "__init__" = some (some (.ref f27)))
    (i27 : PySem.W.isFn K (.ref f27) = true)
    (l27 : K.lookup f27 = some ⟨oc27, od27, .func (PySem.W.fnOf "__init__" "LiveRow.__init__" (defArgs s_LiveRow_init) (defBody s_LiveRow_init) (defScope s_LiveRow_init) .none kV27 dc27 pm27 an27 cd27 ct27), sl27⟩)
    (c27 : PySem.W.codeIn K cd27 "LiveRow.__init__" = true)
    (k27 : PySem.W.keepIn K (.ref f27) = true)
    (a28 : PySem.W.findIn K (.ref CV) "now" = some (some (.ref p28)))
    (g28 : PySem.W.specialIn K (.ref p28) "__get__" = some (some (.builtin "property.__get__")))
    (t28 : PySem.W.takesIn K (.ref p28) = some true)
    (r28 : PySem.W.recIn K p28 "property" = some (.ref f28 :: rs28))
    (l28 : K.lookup f28 = some ⟨oc28, od28, .func (PySem.W.fnOf "now" "LiveRow.now" (defArgs s_LiveRow_now) (defBody s_LiveRow_now) (defScope s_LiveRow_now) .none kV28 dc28 pm28 an28 cd28 ct28), sl28⟩)
    (c28 : PySem.W.codeIn K cd28 "LiveRow.now" = true)
    (k28 : PySem.W.keepIn K (.ref f28) = true)
    (a29 : PySem.W.findIn K (.ref CV) "lost_water" = some (some (.ref p29)))
    (g29 : PySem.W.specialIn K (.ref p29) "__get__" = some (some (.builtin "property.__get__")))
    (t29 : PySem.W.takesIn K (.ref p29) = some true)
    (r29 : PySem.W.recIn K p29 "property" = some (.ref f29 :: rs29))
    (l29 : K.lookup f29 = some ⟨oc29, od29, .func (PySem.W.fnOf "lost_water" "LiveRow.lost_water" (defArgs s_LiveRow_lost_water) (defBody s_LiveRow_lost_water) (defScope s_LiveRow_lost_water) .none kV29 dc29 pm29 an29 cd29 ct29), sl29⟩)
    (c29 : PySem.W.codeIn K cd29 "LiveRow.lost_water" = true)
    (k29 : PySem.W.keepIn K (.ref f29) = true)
    (a30 : PySem.W.findIn K (.ref CV) "missed_water" = some (some (.ref p30)))
    (g30 : PySem.W.specialIn K (.ref p30) "__get__" = some (some (.builtin "property.__get__")))
    (t30 : PySem.W.takesIn K (.ref p30) = some true)
    (r30 : PySem.W.recIn K p30 "property" = some (.ref f30 :: rs30))
    (l30 : K.lookup f30 = some ⟨oc30, od30, .func (PySem.W.fnOf "missed_water" "LiveRow.missed_water" (defArgs s_LiveRow_missed_water) (defBody s_LiveRow_missed_water) (defScope s_LiveRow_missed_water) .none kV30 dc30 pm30 an30 cd30 ct30), sl30⟩)
    (c30 : PySem.W.codeIn K cd30 "LiveRow.missed_water" = true)
    (k30 : PySem.W.keepIn K (.ref f30) = true)
    (a31 : PySem.W.findIn K (.ref CV) "levels" = some (some (.ref p31)))
    (g31 : PySem.W.specialIn K (.ref p31) "__get__" = some (some (.builtin "property.__get__")))
    (t31 : PySem.W.takesIn K (.ref p31) = some true)
    (r31 : PySem.W.recIn K p31 "property" = some (.ref f31 :: rs31))
    (l31 : K.lookup f31 = some ⟨oc31, od31, .func (PySem.W.fnOf "levels" "LiveRow.levels" (defArgs s_LiveRow_levels) (defBody s_LiveRow_levels) (defScope s_LiveRow_levels) .none kV31 dc31 pm31 an31 cd31 ct31), sl31⟩)
    (c31 : PySem.W.codeIn K cd31 "LiveRow.levels" = true)
    (k31 : PySem.W.keepIn K (.ref f31) = true)
    (a32 : PySem.W.findIn K (.ref CV) "locked_names" = some (some (.ref p32)))
    (g32 : PySem.W.specialIn K (.ref p32) "__get__" = some (some (.builtin "property.__get__")))
    (t32 : PySem.W.takesIn K (.ref p32) = some true)
    (r32 : PySem.W.recIn K p32 "property" = some (.ref f32 :: rs32))
    (l32 : K.lookup f32 = some ⟨oc32, od32, .func (PySem.W.fnOf "locked_names" "LiveRow.locked_names" (defArgs s_LiveRow_locked_names) (defBody s_LiveRow_locked_names) (defScope s_LiveRow_locked_names) .none kV32 dc32 pm32 an32 cd32 ct32), sl32⟩)
    (c32 : PySem.W.codeIn K cd32 "LiveRow.locked_names" = true)
    (k32 : PySem.W.keepIn K (.ref f32) = true)
    (a33 : PySem.W.findIn K (.ref CV) "history" = some (some (.ref p33)))
    (g33 : PySem.W.specialIn K (.ref p33) "__get__" = some (some (.builtin "property.__get__")))
    (t33 : PySem.W.takesIn K (.ref p33) = some true)
    (r33 : PySem.W.recIn K p33 "property" = some (.ref f33 :: rs33))
    (l33 : K.lookup f33 = some ⟨oc33, od33, .func (PySem.W.fnOf "history" "LiveRow.history" (defArgs s_LiveRow_history) (defBody s_LiveRow_history) (defScope s_LiveRow_history) .none kV33 dc33 pm33 an33 cd33 ct33), sl33⟩)
    (c33 : PySem.W.codeIn K cd33 "LiveRow.history" = true)
    (k33 : PySem.W.keepIn K (.ref f33) = true)
    (a34 : PySem.W.nsIn K mainGlobals "check_operations" = some (some (.ref f34)))
    (l34 : K.lookup f34 = some ⟨oc34, od34, .func (PySem.W.fnOf "check_operations" "check_operations" (defArgs s_check_operations) (defBody s_check_operations) (defScope s_check_operations) .none kV34 dc34 pm34 an34 cd34 ct34), sl34⟩)
    (c34 : PySem.W.codeIn K cd34 "check_operations" = true)
    (k34 : PySem.W.keepIn K (.ref f34) = true)
    (a35 : PySem.W.findIn K (.ref CV) "_take_over" = some (some (.ref f35)))
    (i35 : PySem.W.isFn K (.ref f35) = true)
    (l35 : K.lookup f35 = some ⟨oc35, od35, .func (PySem.W.fnOf "_take_over" "LiveRow._take_over" (defArgs s_LiveRow_take_over) (defBody s_LiveRow_take_over) (defScope s_LiveRow_take_over) .none kV35 dc35 pm35 an35 cd35 ct35), sl35⟩)
    (c35 : PySem.W.codeIn K cd35 "LiveRow._take_over" = true)
    (k35 : PySem.W.keepIn K (.ref f35) = true)
    (a36 : PySem.W.findIn K (.ref CV) "undo" = some (some (.ref f36)))
    (i36 : PySem.W.isFn K (.ref f36) = true)
    (l36 : K.lookup f36 = some ⟨oc36, od36, .func (PySem.W.fnOf "undo" "LiveRow.undo" (defArgs s_LiveRow_undo) (defBody s_LiveRow_undo) (defScope s_LiveRow_undo) .none kV36 dc36 pm36 an36 cd36 ct36), sl36⟩)
    (c36 : PySem.W.codeIn K cd36 "LiveRow.undo" = true)
    (k36 : PySem.W.keepIn K (.ref f36) = true)
    (a37 : PySem.W.findIn K (.ref CV) "redo" = some (some (.ref f37)))
    (i37 : PySem.W.isFn K (.ref f37) = true)
    (l37 : K.lookup f37 = some ⟨oc37, od37, .func (PySem.W.fnOf "redo" "LiveRow.redo" (defArgs s_LiveRow_redo) (defBody s_LiveRow_redo) (defScope s_LiveRow_redo) .none kV37 dc37 pm37 an37 cd37 ct37), sl37⟩)
    (c37 : PySem.W.codeIn K cd37 "LiveRow.redo" = true)
    (k37 : PySem.W.keepIn K (.ref f37) = true)
    (a38 : PySem.W.findIn K (.ref CV) "_perform" = some (some (.ref f38)))
    (i38 : PySem.W.isFn K (.ref f38) = true)
    (l38 : K.lookup f38 = some ⟨oc38, od38, .func (PySem.W.fnOf "_perform" "LiveRow._perform" (defArgs s_LiveRow_perform) (defBody s_LiveRow_perform) (defScope s_LiveRow_perform) .none kV38 dc38 pm38 an38 cd38 ct38), sl38⟩)
    (c38 : PySem.W.codeIn K cd38 "LiveRow._perform" = true)
    (k38 : PySem.W.keepIn K (.ref f38) = true)
    (a39 : PySem.W.findIn K (.ref CV) "apply_all" = some (some (.ref f39)))
    (i39 : PySem.W.isFn K (.ref f39) = true)
    (l39 : K.lookup f39 = some ⟨oc39, od39, .func (PySem.W.fnOf "apply_all" "LiveRow.apply_all" (defArgs s_LiveRow_apply_all) (defBody s_LiveRow_apply_all) (defScope s_LiveRow_apply_all) .none kV39 dc39 pm39 an39 cd39 ct39), sl39⟩)
    (c39 : PySem.W.codeIn K cd39 "LiveRow.apply_all" = true)
    (k39 : PySem.W.keepIn K (.ref f39) = true)
    (a40 : PySem.W.findCls K (.ref CV) (.type "type") "replay" = some (.get (.builtin "classmethod.__get__") (.ref p40) .none (.ref CV)))
    (r40 : PySem.W.recIn K p40 "classmethod" = some (.ref f40 :: rs40))
    (n40 : PySem.W.fnIn K f40 = true)
    (l40 : K.lookup f40 = some ⟨oc40, od40, .func (PySem.W.fnOf "replay" "LiveRow.replay" (defArgs s_LiveRow_replay) (defBody s_LiveRow_replay) (defScope s_LiveRow_replay) .none kV40 dc40 pm40 an40 cd40 ct40), sl40⟩)
    (c40 : PySem.W.codeIn K cd40 "LiveRow.replay" = true)
    (k40 : PySem.W.keepIn K (.ref f40) = true)
    (a41 : PySem.W.nsIn K mainGlobals "_law_outcome" = some (some (.ref f41)))
    (l41 : K.lookup f41 = some ⟨oc41, od41, .func (PySem.W.fnOf "_law_outcome" "_law_outcome" (defArgs s_law_outcome) (defBody s_law_outcome) (defScope s_law_outcome) .none kV41 dc41 pm41 an41 cd41 ct41), sl41⟩)
    (c41 : PySem.W.codeIn K cd41 "_law_outcome" = true)
    (k41 : PySem.W.keepIn K (.ref f41) = true)
    (a42 : PySem.W.nsIn K mainGlobals "_law_mix" = some (some (.ref f42)))
    (l42 : K.lookup f42 = some ⟨oc42, od42, .func (PySem.W.fnOf "_law_mix" "_law_mix" (defArgs s_law_mix) (defBody s_law_mix) (defScope s_law_mix) .none kV42 dc42 pm42 an42 cd42 ct42), sl42⟩)
    (c42 : PySem.W.codeIn K cd42 "_law_mix" = true)
    (k42 : PySem.W.keepIn K (.ref f42) = true)
    (a43 : PySem.W.nsIn K mainGlobals "_law_next" = some (some (.ref f43)))
    (l43 : K.lookup f43 = some ⟨oc43, od43, .func (PySem.W.fnOf "_law_next" "_law_next" (defArgs s_law_next) (defBody s_law_next) (defScope s_law_next) .none kV43 dc43 pm43 an43 cd43 ct43), sl43⟩)
    (c43 : PySem.W.codeIn K cd43 "_law_next" = true)
    (k43 : PySem.W.keepIn K (.ref f43) = true)
    (a44 : PySem.W.nsIn K mainGlobals "_law_parts" = some (some (.ref f44)))
    (l44 : K.lookup f44 = some ⟨oc44, od44, .func (PySem.W.fnOf "_law_parts" "_law_parts" (defArgs s_law_parts) (defBody s_law_parts) (defScope s_law_parts) .none kV44 dc44 pm44 an44 cd44 ct44), sl44⟩)
    (c44 : PySem.W.codeIn K cd44 "_law_parts" = true)
    (k44 : PySem.W.keepIn K (.ref f44) = true)
    (a45 : PySem.W.nsIn K mainGlobals "_law_row" = some (some (.ref f45)))
    (l45 : K.lookup f45 = some ⟨oc45, od45, .func (PySem.W.fnOf "_law_row" "_law_row" (defArgs s_law_row) (defBody s_law_row) (defScope s_law_row) .none kV45 dc45 pm45 an45 cd45 ct45), sl45⟩)
    (c45 : PySem.W.codeIn K cd45 "_law_row" = true)
    (k45 : PySem.W.keepIn K (.ref f45) = true)
    (a46 : PySem.W.nsIn K mainGlobals "_law_alike" = some (some (.ref f46)))
    (l46 : K.lookup f46 = some ⟨oc46, od46, .func (PySem.W.fnOf "_law_alike" "_law_alike" (defArgs s_law_alike) (defBody s_law_alike) (defScope s_law_alike) .none kV46 dc46 pm46 an46 cd46 ct46), sl46⟩)
    (c46 : PySem.W.codeIn K cd46 "_law_alike" = true)
    (k46 : PySem.W.keepIn K (.ref f46) = true)
    (a47 : PySem.W.nsIn K mainGlobals "_law_told" = some (some (.ref f47)))
    (l47 : K.lookup f47 = some ⟨oc47, od47, .func (PySem.W.fnOf "_law_told" "_law_told" (defArgs s_law_told) (defBody s_law_told) (defScope s_law_told) .none kV47 dc47 pm47 an47 cd47 ct47), sl47⟩)
    (c47 : PySem.W.codeIn K cd47 "_law_told" = true)
    (k47 : PySem.W.keepIn K (.ref f47) = true)
    (a48 : PySem.W.nsIn K mainGlobals "_law_deed" = some (some (.ref f48)))
    (l48 : K.lookup f48 = some ⟨oc48, od48, .func (PySem.W.fnOf "_law_deed" "_law_deed" (defArgs s_law_deed) (defBody s_law_deed) (defScope s_law_deed) .none kV48 dc48 pm48 an48 cd48 ct48), sl48⟩)
    (c48 : PySem.W.codeIn K cd48 "_law_deed" = true)
    (k48 : PySem.W.keepIn K (.ref f48) = true)
    (a49 : PySem.W.nsIn K mainGlobals "law" = some (some (.ref f49)))
    (l49 : K.lookup f49 = some ⟨oc49, od49, .func (PySem.W.fnOf "law" "law" (defArgs s_law) (defBody s_law) (defScope s_law) .none kV49 dc49 pm49 an49 cd49 ct49), sl49⟩)
    (c49 : PySem.W.codeIn K cd49 "law" = true)
    (k49 : PySem.W.keepIn K (.ref f49) = true)
    (hcdcW : cd49 = .ref cW)
    (hcocW : K.lookup cW = some ⟨occW, odcW, .fields vscW, slcW⟩)
    (hvPcW : vscW[11]? = some (.ref QW))
    (hchcW : PySem.W.codeHdIn K cW QW = true)
    (hnTcW : K.lookup QW = none)
    (htbcW : h.get? QW = some { cls := .none, data := .fields #[] })
    (pgCP : PySem.W.plainGet K CP Str.empty = true)
    (hdCP : PySem.W.hasDictIn K CP = true)
    (poCP : PySem.W.plainOver K CP = true)
    (saCP : PySem.W.findIn K (.ref CP) "__setattr__" = some (some (.builtin "object.__setattr__")))
    (mkCP : PySem.W.makesIn K CP = true)
    (kcCP : PySem.W.keepIn K (.ref CP) = true)
    (sfCP : PySem.W.selfFirst K CP = true)
    (pgCR : PySem.W.plainGet K CR Str.empty = true)
    (hdCR : PySem.W.hasDictIn K CR = true)
    (poCR : PySem.W.plainOver K CR = true)
    (saCR : PySem.W.findIn K (.ref CR) "__setattr__" = some (some (.builtin "object.__setattr__")))
    (mkCR : PySem.W.makesIn K CR = true)
    (kcCR : PySem.W.keepIn K (.ref CR) = true)
    (sfCR : PySem.W.selfFirst K CR = true)
    (pgCV : PySem.W.plainGet K CV Str.empty = true)
    (hdCV : PySem.W.hasDictIn K CV = true)
    (poCV : PySem.W.plainOver K CV = true)
    (saCV : PySem.W.findIn K (.ref CV) "__setattr__" = some (some (.builtin "object.__setattr__")))
    (mkCV : PySem.W.makesIn K CV = true)
    (kcCV : PySem.W.keepIn K (.ref CV) = true)
    (sfCV : PySem.W.selfFirst K CV = true)
    (pgCM : PySem.W.plainGet K CM Str.empty = true)
    (hdCM : PySem.W.hasDictIn K CM = true)
    (poCM : PySem.W.plainOver K CM = true)
    (saCM : PySem.W.findIn K (.ref CM) "__setattr__" = some (some (.builtin "object.__setattr__")))
    (mkCM : PySem.W.makesIn K CM = true)
    (kcCM : PySem.W.keepIn K (.ref CM) = true)
    (sfCM : PySem.W.selfFirst K CM = true)
    (hneCV : CR ≠ CV)
    (hneCM : CR ≠ CM)
    (na0 : PySem.W.findIn K (.ref CP) "start" = some none)
    (na1 : PySem.W.findIn K (.ref CP) "capacity" = some none)
    (na2 : PySem.W.findIn K (.ref CP) "after" = some none)
    (na3 : PySem.W.findIn K (.ref CP) "drawn" = some none)
    (na4 : PySem.W.findIn K (.ref CP) "missed" = some none)
    (na5 : PySem.W.findIn K (.ref CP) "over" = some none)
    (na6 : PySem.W.findIn K (.ref CR) "_rain" = some none)
    (na7 : PySem.W.findIn K (.ref CR) "_barrels" = some none)
    (na8 : PySem.W.findIn K (.ref CM) "tick" = some none)
    (na9 : PySem.W.findIn K (.ref CM) "heights" = some none)
    (na10 : PySem.W.findIn K (.ref CM) "locks" = some none)
    (na11 : PySem.W.findIn K (.ref CM) "lost" = some none)
    (na12 : PySem.W.findIn K (.ref CM) "missed" = some none)
    (na13 : PySem.W.findIn K (.ref CV) "_row" = some none)
    (na14 : PySem.W.findIn K (.ref CV) "_moment" = some none)
    (na15 : PySem.W.findIn K (.ref CV) "_done" = some none)
    (na16 : PySem.W.findIn K (.ref CV) "_undone" = some none)
    (gi0 : PySem.W.nsIn K mainGlobals "FOREVER" = some (some (.int 1000000000000000001 tg0)))
    (gi1 : PySem.W.nsIn K mainGlobals "MAX_FALL" = some (some (.int 1000000 tg1)))
    (gi2 : PySem.W.nsIn K mainGlobals "MAX_LETTERS" = some (some (.int 8 tg2)))
    (gi3 : PySem.W.nsIn K mainGlobals "MAX_CAPACITY" = some (some (.int 1000000000 tg3)))
    (gi4 : PySem.W.nsIn K mainGlobals "MAX_ROOF" = some (some (.int 100 tg4)))
    (gi5 : PySem.W.nsIn K mainGlobals "MAX_WISH" = some (some (.int 1000000000 tg5)))
    (gi6 : PySem.W.nsIn K mainGlobals "LAST_TICK" = some (some (.int 1000000000000000000 tg6)))
    (gi7 : PySem.W.nsIn K mainGlobals "MAX_SCOOP" = some (some (.int 1000000000 tg7)))
    (nb0 : PySem.W.nsIn K mainGlobals "len" = some none)
    (nb1 : PySem.W.nsIn K mainGlobals "sum" = some none)
    (nb2 : PySem.W.nsIn K mainGlobals "min" = some none)
    (nb3 : PySem.W.nsIn K mainGlobals "max" = some none)
    (nb4 : PySem.W.nsIn K mainGlobals "all" = some none)
    (nb5 : PySem.W.nsIn K mainGlobals "divmod" = some none)
    (nb6 : PySem.W.nsIn K mainGlobals "isinstance" = some none)
    (nb7 : PySem.W.nsIn K mainGlobals "tuple" = some none)
    (nb8 : PySem.W.nsIn K mainGlobals "list" = some none)
    (nb9 : PySem.W.nsIn K mainGlobals "int" = some none)
    (nb10 : PySem.W.nsIn K mainGlobals "bool" = some none)
    (nb11 : PySem.W.nsIn K mainGlobals "range" = some none)
    (nb12 : PySem.W.nsIn K mainGlobals "zip" = some none)
    (nb13 : PySem.W.nsIn K mainGlobals "enumerate" = some none)
    (rd : PySem.W.readsIn K CR (.type "type") = true)
    (ga : PySem.W.specialIn K (.ref CR) "__getattribute__" = some (some (.builtin "type.__getattribute__")))
    (v1 : PySem.W.findCls K (.ref CR) (.type "type") "MAX_TICKS" = some (.val (.int 12 tv1)))
    (v2 : PySem.W.findCls K (.ref CR) (.type "type") "MAX_BARRELS" = some (.val (.int 5 tv2)))
    (rdCV : PySem.W.readsIn K CV (.type "type") = true)
    (gaCV : PySem.W.specialIn K (.ref CV) "__getattribute__" = some (some (.builtin "type.__getattribute__")))
    (nsorted : PySem.W.nsIn K mainGlobals "sorted" = some none)
    (aOP : PySem.W.nsIn K mainGlobals "OPERATIONS" = some (some (.ref OPSA)))
    (lOP : K.lookup OPSA = some ⟨.type "tuple", odP, .seq #[.ref op1, .ref op2, .ref op3, .ref op4] nP, slP⟩)
    (lO1 : K.lookup op1 = some ⟨.type "tuple", od1P, .seq #[.str "pour" ts1P, .int 1 ti1P] n1P, sl1P⟩)
    (lO2 : K.lookup op2 = some ⟨.type "tuple", od2P, .seq #[.str "scoop" ts2P, .int 2 ti2P] n2P, sl2P⟩)
    (lO3 : K.lookup op3 = some ⟨.type "tuple", od3P, .seq #[.str "lock" ts3P, .int 1 ti3P] n3P, sl3P⟩)
    (lO4 : K.lookup op4 = some ⟨.type "tuple", od4P, .seq #[.str "unlock" ts4P, .int 1 ti4P] n4P, sl4P⟩)
    (hneMV : CM ≠ CV)
    (ndict : PySem.W.nsIn K mainGlobals "dict" = some none)
    (nstr : PySem.W.nsIn K mainGlobals "str" = some none) :
    LamX.LawAtS l w K CX0 14 63 "_law_script" mg fa h := by
  have e := hfa.symm.trans (PySem.W.mg_of X G a49)
  cases e
  subst hcdcW
  have T : Txt K mg CP CR := ⟨⟨PySem.W.mg_none_of X G nb0, PySem.W.mg_none_of X G nb1, PySem.W.mg_none_of X G nb2, PySem.W.mg_none_of X G nb3, PySem.W.mg_none_of X G nb4, PySem.W.mg_none_of X G nb5, PySem.W.mg_none_of X G nb6, PySem.W.mg_none_of X G nb7, PySem.W.mg_none_of X G nb8, PySem.W.mg_none_of X G nb9, PySem.W.mg_none_of X G nb10, PySem.W.mg_none_of X G nb11, PySem.W.mg_none_of X G nb12, PySem.W.mg_none_of X G nb13⟩, ⟨_, PySem.W.mg_of X G gi0⟩, ⟨_, PySem.W.mg_of X G gi1⟩, ⟨_, PySem.W.mg_of X G gi2⟩, ⟨_, PySem.W.mg_of X G gi3⟩, ⟨_, PySem.W.mg_of X G gi4⟩, ⟨_, PySem.W.mg_of X G gi5⟩, ⟨_, PySem.W.mg_of X G gi6⟩, ⟨_, PySem.W.mg_of X G gi7⟩, PySem.W.mg_of X G aCP, ⟨pgCP, hdCP, poCP, saCP⟩, sfCP, na0, na1, na2, na3, na4, na5, PySem.W.mg_of X G aCR, ⟨pgCR, hdCR, poCR, saCR⟩, sfCR, na6, na7⟩
  have TV : Txt_LiveRow K mg CV := ⟨PySem.W.mg_of X G aCV, ⟨pgCV, hdCV, poCV, saCV⟩, sfCV, na13, na14, na15, na16⟩
  have TM : Txt_Moment K mg CM := ⟨PySem.W.mg_of X G aCM, ⟨pgCM, hdCM, poCM, saCM⟩, sfCM, na8, na9, na10, na11, na12⟩
  have hV1 : ∃ mc u, ClX.CRead K CR mc ∧ ClX.CVal K CR mc "MAX_TICKS" (.int 12) u := ⟨_, _, ⟨rd, ga⟩, ⟨v1, ⟨_, rfl⟩⟩⟩
  have hV2 : ∃ mc u, ClX.CRead K CR mc ∧ ClX.CVal K CR mc "MAX_BARRELS" (.int 5) u := ⟨_, _, ⟨rd, ga⟩, ⟨v2, ⟨_, rfl⟩⟩⟩
  have n_dict := PySem.W.mg_none_of X G ndict
  have n_str := PySem.W.mg_none_of X G nstr
  have n_sorted := PySem.W.mg_none_of X G nsorted
  have hOPS := ops_of (PySem.W.mg_of X G aOP) lOP lO1 lO2 lO3 lO4
  have F1 := fun_mk (st := s_is_number) l1 c1 k1
  have b1 := F1.binds (ps := P_is_number) fun _ _ _ _ _ _ us hl => match us, hl with | [_, _, _], _ => rfl
  have F2 := fun_mk (st := s_is_name) l2 c2 k2
  have b2 := F2.binds (ps := P_is_name) fun _ _ _ _ _ _ us hl => match us, hl with | [_], _ => rfl
  have F3 := fun_mk (st := s_is_barrel) l3 c3 k3
  have b3 := F3.binds (ps := P_is_barrel) fun _ _ _ _ _ _ us hl => match us, hl with | [_, _], _ => rfl
  have F4 := fun_mk (st := s_check_rain) l4 c4 k4
  have b4 := F4.binds (ps := P_check_rain) fun _ _ _ _ _ _ us hl => match us, hl with | [_], _ => rfl
  have F5 := fun_mk (st := s_check_barrels) l5 c5 k5
  have b5 := F5.binds (ps := P_check_barrels) fun _ _ _ _ _ _ us hl => match us, hl with | [_, _], _ => rfl
  have F6 := fun_mk (st := s_Passage_let_in) l6 c6 k6
  have b6 := F6.binds (ps := P_Passage_let_in) fun _ _ _ _ _ _ us hl => match us, hl with | [_, _, _], _ => rfl
  have F7 := fun_mk (st := s_Passage_init) l7 c7 k7
  have b7 := F7.binds (ps := P_Passage_init) fun _ _ _ _ _ _ us hl => match us, hl with | [_, _, _, _], _ => rfl
  have F8 := fun_mk (st := s_Row_init) l8 c8 k8
  have F9 := fun_mk (st := s_Row_rain) l9 c9 k9
  have b9 := F9.binds (ps := P_Row_rain) fun _ _ _ _ _ _ us hl => match us, hl with | [_], _ => rfl
  have F10 := fun_mk (st := s_Row_barrels) l10 c10 k10
  have b10 := F10.binds (ps := P_Row_barrels) fun _ _ _ _ _ _ us hl => match us, hl with | [_], _ => rfl
  have F11 := fun_mk (st := s_Row_names) l11 c11 k11
  have b11 := F11.binds (ps := P_Row_names) fun _ _ _ _ _ _ us hl => match us, hl with | [_], _ => rfl
  have F12 := fun_mk (st := s_Row_add) l12 c12 k12
  have b12 := F12.binds (ps := P_Row_add) fun _ _ _ _ _ _ us hl => match us, hl with | [_, _], _ => rfl
  have F13 := fun_mk (st := s_Row_len) l13 c13 k13
  have b13 := F13.binds (ps := P_Row_len) fun _ _ _ _ _ _ us hl => match us, hl with | [_], _ => rfl
  have F14 := fun_mk (st := s_pass_ticks) l14 c14 k14
  have b14 := F14.binds (ps := P_pass_ticks) fun _ _ _ _ _ _ us hl => match us, hl with | [_, _, _], _ => rfl
  have F15 := fun_mk (st := s_check_number) l15 c15 k15
  have b15 := F15.binds (ps := P_check_number) fun _ _ _ _ _ _ us hl => match us, hl with | [_, _, _], _ => rfl
  have F16 := fun_mk (st := s_place_of) l16 c16 k16
  have b16 := F16.binds (ps := P_place_of) fun _ _ _ _ _ _ us hl => match us, hl with | [_, _], _ => rfl
  have F17 := fun_mk (st := s_Moment_init) l17 c17 k17
  have b17 := F17.binds (ps := P_Moment_init) fun _ _ _ _ _ _ us hl => match us, hl with | [_, _, _, _, _, _], _ => rfl
  have F18 := fun_mk (st := s_after_tick) l18 c18 k18
  have b18 := F18.binds (ps := P_after_tick) fun _ _ _ _ _ _ us hl => match us, hl with | [_, _, _], _ => rfl
  have F19 := fun_mk (st := s_after_scoop) l19 c19 k19
  have b19 := F19.binds (ps := P_after_scoop) fun _ _ _ _ _ _ us hl => match us, hl with | [_, _, _], _ => rfl
  have F20 := fun_mk (st := s_after_turn) l20 c20 k20
  have b20 := F20.binds (ps := P_after_turn) fun _ _ _ _ _ _ us hl => match us, hl with | [_, _, _], _ => rfl
  have F21 := fun_mk (st := s_LiveRow_go_on) l21 c21 k21
  have b21 := F21.binds (ps := P_LiveRow_go_on) fun _ _ _ _ _ _ us hl => match us, hl with | [_, _, _], _ => rfl
  have F22 := fun_mk (st := s_LiveRow_pour) l22 c22 k22
  have b22 := F22.binds (ps := P_LiveRow_pour) fun _ _ _ _ _ _ us hl => match us, hl with | [_, _], _ => rfl
  have F23 := fun_mk (st := s_LiveRow_scoop) l23 c23 k23
  have b23 := F23.binds (ps := P_LiveRow_scoop) fun _ _ _ _ _ _ us hl => match us, hl with | [_, _, _], _ => rfl
  have F24 := fun_mk (st := s_LiveRow_turn) l24 c24 k24
  have b24 := F24.binds (ps := P_LiveRow_turn) fun _ _ _ _ _ _ us hl => match us, hl with | [_, _, _], _ => rfl
  have F25 := fun_mk (st := s_LiveRow_lock) l25 c25 k25
  have b25 := F25.binds (ps := P_LiveRow_lock) fun _ _ _ _ _ _ us hl => match us, hl with | [_, _], _ => rfl
  have F26 := fun_mk (st := s_LiveRow_unlock) l26 c26 k26
  have b26 := F26.binds (ps := P_LiveRow_unlock) fun _ _ _ _ _ _ us hl => match us, hl with | [_, _], _ => rfl
  have F27 := fun_mk (st := s_LiveRow_init) l27 c27 k27
  have b27 := F27.binds (ps := P_LiveRow_init) fun _ _ _ _ _ _ us hl => match us, hl with | [_, _], _ => rfl
  have F28 := fun_mk (st := s_LiveRow_now) l28 c28 k28
  have b28 := F28.binds (ps := P_LiveRow_now) fun _ _ _ _ _ _ us hl => match us, hl with | [_], _ => rfl
  have F29 := fun_mk (st := s_LiveRow_lost_water) l29 c29 k29
  have b29 := F29.binds (ps := P_LiveRow_lost_water) fun _ _ _ _ _ _ us hl => match us, hl with | [_], _ => rfl
  have F30 := fun_mk (st := s_LiveRow_missed_water) l30 c30 k30
  have b30 := F30.binds (ps := P_LiveRow_missed_water) fun _ _ _ _ _ _ us hl => match us, hl with | [_], _ => rfl
  have F31 := fun_mk (st := s_LiveRow_levels) l31 c31 k31
  have b31 := F31.binds (ps := P_LiveRow_levels) fun _ _ _ _ _ _ us hl => match us, hl with | [_], _ => rfl
  have F32 := fun_mk (st := s_LiveRow_locked_names) l32 c32 k32
  have b32 := F32.binds (ps := P_LiveRow_locked_names) fun _ _ _ _ _ _ us hl => match us, hl with | [_], _ => rfl
  have F33 := fun_mk (st := s_LiveRow_history) l33 c33 k33
  have b33 := F33.binds (ps := P_LiveRow_history) fun _ _ _ _ _ _ us hl => match us, hl with | [_], _ => rfl
  have F34 := fun_mk (st := s_check_operations) l34 c34 k34
  have b34 := F34.binds (ps := P_check_operations) fun _ _ _ _ _ _ us hl => match us, hl with | [_], _ => rfl
  have F35 := fun_mk (st := s_LiveRow_take_over) l35 c35 k35
  have b35 := F35.binds (ps := P_LiveRow_take_over) fun _ _ _ _ _ _ us hl => match us, hl with | [_, _], _ => rfl
  have F36 := fun_mk (st := s_LiveRow_undo) l36 c36 k36
  have b36 := F36.binds (ps := P_LiveRow_undo) fun _ _ _ _ _ _ us hl => match us, hl with | [_], _ => rfl
  have F37 := fun_mk (st := s_LiveRow_redo) l37 c37 k37
  have b37 := F37.binds (ps := P_LiveRow_redo) fun _ _ _ _ _ _ us hl => match us, hl with | [_], _ => rfl
  have F38 := fun_mk (st := s_LiveRow_perform) l38 c38 k38
  have b38 := F38.binds (ps := P_LiveRow_perform) fun _ _ _ _ _ _ us hl => match us, hl with | [_, _], _ => rfl
  have F39 := fun_mk (st := s_LiveRow_apply_all) l39 c39 k39
  have b39 := F39.binds (ps := P_LiveRow_apply_all) fun _ _ _ _ _ _ us hl => match us, hl with | [_, _], _ => rfl
  have F40 := fun_mk (st := s_LiveRow_replay) l40 c40 k40
  have F41 := fun_mk (st := s_law_outcome) l41 c41 k41
  have b41 := F41.binds (ps := P_law_outcome) fun _ _ _ _ _ _ us hl => match us, hl with | [_], _ => rfl
  have F42 := fun_mk (st := s_law_mix) l42 c42 k42
  have b42 := F42.binds (ps := P_law_mix) fun _ _ _ _ _ _ us hl => match us, hl with | [_, _], _ => rfl
  have F43 := fun_mk (st := s_law_next) l43 c43 k43
  have b43 := F43.binds (ps := P_law_next) fun _ _ _ _ _ _ us hl => match us, hl with | [_, _], _ => rfl
  have F44 := fun_mk (st := s_law_parts) l44 c44 k44
  have b44 := F44.binds (ps := P_law_parts) fun _ _ _ _ _ _ us hl => match us, hl with | [_, _, _], _ => rfl
  have F45 := fun_mk (st := s_law_row) l45 c45 k45
  have b45 := F45.binds (ps := P_law_row) fun _ _ _ _ _ _ us hl => match us, hl with | [_], _ => rfl
  have F46 := fun_mk (st := s_law_alike) l46 c46 k46
  have b46 := F46.binds (ps := P_law_alike) fun _ _ _ _ _ _ us hl => match us, hl with | [_, _], _ => rfl
  have F47 := fun_mk (st := s_law_told) l47 c47 k47
  have b47 := F47.binds (ps := P_law_told) fun _ _ _ _ _ _ us hl => match us, hl with | [_], _ => rfl
  have F48 := fun_mk (st := s_law_deed) l48 c48 k48
  have b48 := F48.binds (ps := P_law_deed) fun _ _ _ _ _ _ us hl => match us, hl with | [_], _ => rfl
  have F49 := fun_mk (st := s_law) l49 c49 k49
  refine ⟨PySem.W.fnOf "law" "law" (defArgs s_law) (defBody s_law) (defScope s_law) .none kV49 dc49 pm49 an49 (.ref cW) ct49, [(cW, QW)], (spLawT K [(QW, lwQ)]), fun p hp => ?_, fun p hp => ?_, fun p hp => ?_, fun s v => .of_eq rfl, fun H a ns hlen hbits hH hS => ⟨a, ns, rfl, hlen, fun p hp => ?_, hS, fun _ => rfl⟩, fun base _ _ hTB => ?_⟩
  · exact by rw [List.mem_singleton.mp hp]; exact htbcW
  · exact by rw [List.mem_singleton.mp hp]; exact hnTcW
  · exact by rw [List.mem_singleton.mp hp]; exact PySem.W.codeHd_of_K X hchcW
  · exact by rw [List.mem_singleton.mp hp]; exact LamX.TabS.nil (hH (cW, QW) (List.mem_cons_self))
  have TBW : LamX.TabB base mg cW QW := hTB (cW, QW) (List.mem_cons_self)
  have hmcW : (QW, lwQ) ∈ ([(QW, lwQ)] : List (Addr × Str)) := List.mem_cons_self
  have hucW : ∀ p ∈ ([(QW, lwQ)] : List (Addr × Str)), p.1 = QW → p.2 = lwQ := fun p hp _ => by rw [List.mem_singleton.mp hp]
  have oexCU : OexC K CU := ⟨⟨_, _, _, _, _, _, _, _, _, _, _, _, _, _, _, xoCU, xrCU⟩, xsCU, xeCU, xtCU, xkCU⟩
  have xfcCU : XfC K CU := ⟨xaCU, xgCU, xeCU, xhCU⟩
  have supCU : SupOk l.prog K mg CU (exF s_UnknownBarrel_init "UnknownBarrel.__init__" cdaCU ccCU) ccCU := ⟨rfl, xcCU, ⟨_, _, _, _, _, _, xdCU, xvCU, xwCU⟩, ⟨_, _, _, xxCU⟩, oexCU, xyCU, PySem.W.mg_none_of X G nsup, xtop, xtp, xpCU, xqCU⟩
  have e_UnknownBarrel : ∀ base, ExK l.prog w K mg base "UnknownBarrel" CU ["name"] 2 (spUnkI CU) := fun base => ⟨fiCU, _, P_UnknownBarrel_init, oexCU, xiCU, xjCU, ok_unk_init supCU xlCU xfCUname, ⟨fun s us ws _ hu hw => match us, hu, ws, hw with | [_], _, [_], _ => .of_eq rfl, fun r1 r2 => r1.append r2⟩, PySem.W.mg_of X G aCU⟩
  have oexCO : OexC K CO := ⟨⟨_, _, _, _, _, _, _, _, _, _, _, _, _, _, _, xoCO, xrCO⟩, xsCO, xeCO, xtCO, xkCO⟩
  have xfcCO : XfC K CO := ⟨xaCO, xgCO, xeCO, xhCO⟩
  have supCO : SupOk l.prog K mg CO (exF s_InvalidOperation_init "InvalidOperation.__init__" cdaCO ccCO) ccCO := ⟨rfl, xcCO, ⟨_, _, _, _, _, _, xdCO, xvCO, xwCO⟩, ⟨_, _, _, xxCO⟩, oexCO, xyCO, PySem.W.mg_none_of X G nsup, xtop, xtp, xpCO, xqCO⟩
  have e_InvalidOperation : ∀ base, ExK l.prog w K mg base "InvalidOperation" CO ["index"] 2 (spOpI CO) := fun base => ⟨fiCO, _, P_InvalidOperation_init, oexCO, xiCO, xjCO, ok_op_init supCO xlCO xfCOindex, ⟨fun s us ws _ hu hw => match us, hu, ws, hw with | [_], _, [_], _ => .of_eq rfl, fun r1 r2 => r1.append r2⟩, PySem.W.mg_of X G aCO⟩
  have e_InvalidNumber : ExN K mg "InvalidNumber" CN := ⟨xnCN, PySem.W.mg_of X G aCN, xkCN, xeCN, xtCN⟩
  have RE : RowErr K mg CS ce0 ce1 CN CO ce4 ce5 ce6 CU := ⟨PySem.W.mg_of X G aCS, PySem.W.mg_of X G ace0, PySem.W.mg_of X G ace1, PySem.W.mg_of X G aCN, PySem.W.mg_of X G aCO, PySem.W.mg_of X G ace4, PySem.W.mg_of X G ace5, PySem.W.mg_of X G ace6, PySem.W.mg_of X G aCU, PySem.W.mg_none_of X G nVE⟩
  have K_CO : KindR K CS ce0 ce1 CN CO ce4 ce5 ce6 CU CO 3 := ⟨⟨xaCO, xgCO, xeCO, xhCO, xlCOc, xcn, xct, xoCOm⟩, ⟨xaCO, xgCO, xeCO, xhCO⟩, xsCOx, xqCO0, xqCO1, xqCO2, xqCO3, xqCO4, xqCO5, xqCO6, xqCO7, xvCOe⟩
  have K_CU : KindR K CS ce0 ce1 CN CO ce4 ce5 ce6 CU CU 7 := ⟨⟨xaCU, xgCU, xeCU, xhCU, xlCUc, xcn, xct, xoCUm⟩, ⟨xaCU, xgCU, xeCU, xhCU⟩, xsCUx, xqCU0, xqCU1, xqCU2, xqCU3, xqCU4, xqCU5, xqCU6, xqCU7, xvCUe⟩
  have c_is_number : Callee l.prog w K mg base "is_number" 1 spIsNumber := ⟨f1, _, P_is_number, PySem.W.mg_of X G a1, F1.kp, b1, ok_is_number F1 T⟩
  have c_is_name : Callee l.prog w K mg base "is_name" 1 spIsName := ⟨f2, _, P_is_name, PySem.W.mg_of X G a2, F2.kp, b2, ok_is_name F2 T⟩
  have c_is_barrel : Callee l.prog w K mg base "is_barrel" 2 (spIsBarrel K) := ⟨f3, _, P_is_barrel, PySem.W.mg_of X G a3, F3.kp, b3, ok_is_barrel F3 T c_is_number c_is_name⟩
  have c_check_rain : Callee l.prog w K mg base "check_rain" 2 (spCheckRain K) := ⟨f4, _, P_check_rain, PySem.W.mg_of X G a4, F4.kp, b4, ok_check_rain F4 T c_is_number hV1⟩
  have c_check_barrels : Callee l.prog w K mg base "check_barrels" 3 (spCheckBarrels K) := ⟨f5, _, P_check_barrels, PySem.W.mg_of X G a5, F5.kp, b5, ok_check_barrels F5 T c_is_barrel hV2⟩
  have c_Passage_let_in : CalleeM l.prog w K mg base CP "let_in" 1 (spLetIn K CP) := ⟨f6, _, P_Passage_let_in, ⟨a6, i6, k6⟩, T.cl_Passage, b6, ok_let_in F6 T⟩
  have c_Passage__init : Maker l.prog w K mg base "Passage" CP 2 (spPasInit K CP) := ⟨f7, _, P_Passage_init, ⟨mkCP, a7, i7, kcCP⟩, PySem.W.mg_of X G aCP, b7, ok_pas_init F7 T c_Passage_let_in⟩
  have c_Row__init : MakerR l.prog w K mg base "Row" CR 4 (spRowInit K CR) := ⟨f8, ⟨mkCR, a8, i8, kcCR⟩, PySem.W.mg_of X G aCR, ok_row_init F8 T c_check_rain c_check_barrels⟩
  have c_Row_rain : CalleeP l.prog w K mg base CR "rain" 1 (spRowRain K CR) := ⟨p9, f9, _, P_Row_rain, ⟨a9, g9, t9, ⟨_, r9⟩⟩, T.cl_Row, b9, ok_row_rain F9 T⟩
  have c_Row_barrels : CalleeP l.prog w K mg base CR "barrels" 1 (spRowBarrels K CR) := ⟨p10, f10, _, P_Row_barrels, ⟨a10, g10, t10, ⟨_, r10⟩⟩, T.cl_Row, b10, ok_row_barrels F10 T⟩
  have c_Row_names : CalleeP l.prog w K mg base CR "names" 1 (spRowNames K CR) := ⟨p11, f11, _, P_Row_names, ⟨a11, g11, t11, ⟨_, r11⟩⟩, T.cl_Row, b11, ok_row_names F11 T⟩
  have c_Row__add : CalleeO l.prog w K mg base CR "__add__" 6 (spRowAdd K CR) := ⟨f12, _, P_Row_add, a12, i12, n12, b12, ok_row_add F12 T c_Row_rain c_Row_barrels c_Row__init⟩
  have c_Row__len : CalleeO l.prog w K mg base CR "__len__" 1 (spRowLen K CR) := ⟨f13, _, P_Row_len, a13, i13, n13, b13, ok_row_len F13 T⟩
  have c_pass_ticksH : Callee l.prog w K mg base "pass_ticks" 4 (spPassTicksH K CP) := ⟨f14, _, P_pass_ticks, PySem.W.mg_of X G a14, F14.kp, b14, ok_pass_ticksH F14 T c_Passage__init⟩
  have x_check_number : CalleeX l.prog w K mg base "check_number" 2 (spCheckNumX CN) := ⟨f15, _, P_check_number, PySem.W.mg_of X G a15, F15.kp, b15, ok_check_numX F15 T c_is_number e_InvalidNumber⟩
  have x_place_of : CalleeX l.prog w K mg base "place_of" 4 (spPlaceOfX K CR CU) := ⟨f16, _, P_place_of, PySem.W.mg_of X G a16, F16.kp, b16, ok_place_ofX F16 T c_Row_names (e_UnknownBarrel base)⟩
  have c_Moment__init : Maker l.prog w K mg base "Moment" CM 2 (spMomInit CM) := ⟨f17, _, P_Moment_init, ⟨mkCM, a17, i17, kcCM⟩, PySem.W.mg_of X G aCM, b17, ok_mom_init F17 T TM⟩
  have c_after_tickG : Callee l.prog w K mg base "after_tick" 5 (spAfterG K CR CM) := ⟨f18, _, P_after_tick, PySem.W.mg_of X G a18, F18.kp, b18, ok_afterG F18 T TM c_Row_rain c_Row_barrels c_pass_ticksH c_Moment__init⟩
  have c_after_scoop : Callee l.prog w K mg base "after_scoop" 4 (spAfterScoop K CM) := ⟨f19, _, P_after_scoop, PySem.W.mg_of X G a19, F19.kp, b19, ok_after_scoop F19 T TM c_Moment__init⟩
  have c_after_turn : Callee l.prog w K mg base "after_turn" 4 (spAfterTurn K CM) := ⟨f20, _, P_after_turn, PySem.W.mg_of X G a20, F20.kp, b20, ok_after_turn F20 T TM c_Moment__init⟩
  have c_LiveRow_go_onG : CalleeM l.prog w K mg base CV "_go_on" 1 (spGoG K CR CM CV) := ⟨f21, _, P_LiveRow_go_on, ⟨a21, i21, k21⟩, TV.cl_LiveRow, b21, ok_goG F21 T TV hneCV hneMV⟩
  have x_LiveRow_pourX : CalleeMX l.prog w K mg base CV "pour" 6 (spPourG K CR CM CV CN) := ⟨f22, _, P_LiveRow_pour, ⟨a22, i22, k22⟩, TV.cl_LiveRow, b22, ok_pourG F22 T TM TV hneCV hneMV x_check_number c_LiveRow_go_onG c_after_tickG⟩
  have x_LiveRow_scoopX : CalleeMX l.prog w K mg base CV "scoop" 6 (spScoopG K CR CM CV CN CU) := ⟨f23, _, P_LiveRow_scoop, ⟨a23, i23, k23⟩, TV.cl_LiveRow, b23, ok_scoopG F23 T TM TV hneCV hneMV x_check_number x_place_of c_LiveRow_go_onG c_after_scoop⟩
  have x_LiveRow_turnX : CalleeMX l.prog w K mg base CV "_turn" 6 (spTurn K CR CM CV CU) := ⟨f24, _, P_LiveRow_turn, ⟨a24, i24, k24⟩, TV.cl_LiveRow, b24, ok_turnG F24 T TM TV hneCV hneMV x_place_of c_LiveRow_go_onG c_after_turn⟩
  have x_LiveRow_lockX : CalleeMX l.prog w K mg base CV "lock" 7 (spLock K CR CM CV CU "lock" true) := ⟨f25, _, P_LiveRow_lock, ⟨a25, i25, k25⟩, TV.cl_LiveRow, b25, ok_lockG F25 T x_LiveRow_turnX⟩
  have x_LiveRow_unlockX : CalleeMX l.prog w K mg base CV "unlock" 7 (spLock K CR CM CV CU "unlock" false) := ⟨f26, _, P_LiveRow_unlock, ⟨a26, i26, k26⟩, TV.cl_LiveRow, b26, ok_unlockG F26 T x_LiveRow_turnX⟩
  have c_LiveRow__initG : Maker l.prog w K mg base "LiveRow" CV 4 (spLiveInitG K CR CM CV) := ⟨f27, _, P_LiveRow_init, ⟨mkCV, a27, i27, kcCV⟩, PySem.W.mg_of X G aCV, b27, ok_live_initG F27 T TM TV hneCV hneMV c_Moment__init c_Row__len⟩
  have c_LiveRow_nowG : CalleeP l.prog w K mg base CV "now" 1 (spNowG K CR CM CV fun x => (x.t : Nat)) := ⟨p28, f28, _, P_LiveRow_now, ⟨a28, g28, t28, ⟨_, r28⟩⟩, TV.cl_LiveRow, b28, ok_nowG F28 T TM TV⟩
  have c_LiveRow_lost_waterG : CalleeP l.prog w K mg base CV "lost_water" 1 (spNowG K CR CM CV Mo.lo) := ⟨p29, f29, _, P_LiveRow_lost_water, ⟨a29, g29, t29, ⟨_, r29⟩⟩, TV.cl_LiveRow, b29, ok_lostwG F29 T TM TV⟩
  have c_LiveRow_missed_waterG : CalleeP l.prog w K mg base CV "missed_water" 1 (spNowG K CR CM CV Mo.mi) := ⟨p30, f30, _, P_LiveRow_missed_water, ⟨a30, g30, t30, ⟨_, r30⟩⟩, TV.cl_LiveRow, b30, ok_misswG F30 T TM TV⟩
  have c_LiveRow_levelsG : CalleeP l.prog w K mg base CV "levels" 3 (spLevelsG K CR CM CV) := ⟨p31, f31, _, P_LiveRow_levels, ⟨a31, g31, t31, ⟨_, r31⟩⟩, TV.cl_LiveRow, b31, ok_levelsG F31 T TM TV c_Row_names⟩
  have c_LiveRow_locked_names : CalleeP l.prog w K mg base CV "locked_names" 3 (spShut K CR CM CV) := ⟨p32, f32, _, P_LiveRow_locked_names, ⟨a32, g32, t32, ⟨_, r32⟩⟩, TV.cl_LiveRow, b32, ok_shut F32 T TM TV c_Row_names⟩
  have c_LiveRow_history : CalleeP l.prog w K mg base CV "history" 1 (spHist K CR CM CV) := ⟨p33, f33, _, P_LiveRow_history, ⟨a33, g33, t33, ⟨_, r33⟩⟩, TV.cl_LiveRow, b33, ok_hist F33 T TV⟩
  have x_check_operations : CalleeX l.prog w K mg base "check_operations" 4 (spCheckOps K CO) := ⟨f34, _, P_check_operations, PySem.W.mg_of X G a34, F34.kp, b34, ok_check_ops F34 T hOPS (e_InvalidOperation base)⟩
  have c_LiveRow_take_over : CalleeM l.prog w K mg base CV "_take_over" 1 (spTakeOver K CR CM CV) := ⟨f35, _, P_LiveRow_take_over, ⟨a35, i35, k35⟩, TV.cl_LiveRow, b35, ok_take_over F35 T TV hneCV hneMV⟩
  have c_LiveRow_undo : CalleeM l.prog w K mg base CV "undo" 1 (spUndo K CR CM CV) := ⟨f36, _, P_LiveRow_undo, ⟨a36, i36, k36⟩, TV.cl_LiveRow, b36, ok_undo F36 T TV hneCV hneMV⟩
  have c_LiveRow_redo : CalleeM l.prog w K mg base CV "redo" 1 (spRedo K CR CM CV) := ⟨f37, _, P_LiveRow_redo, ⟨a37, i37, k37⟩, TV.cl_LiveRow, b37, ok_redo F37 T TV hneCV hneMV⟩
  have x_LiveRow_performX : CalleeMX l.prog w K mg base CV "_perform" 8 (spPerform K CR CM CV CU) := ⟨f38, _, P_LiveRow_perform, ⟨a38, i38, k38⟩, TV.cl_LiveRow, b38, ok_perform F38 T x_LiveRow_pourX x_LiveRow_scoopX x_LiveRow_lockX x_LiveRow_unlockX⟩
  have x_LiveRow_apply_allX : CalleeMX l.prog w K mg base CV "apply_all" 9 (spApply K CR CM CV CU CO) := ⟨f39, _, P_LiveRow_apply_all, ⟨a39, i39, k39⟩, TV.cl_LiveRow, b39, ok_apply F39 T TV hneCV hneMV x_check_operations c_LiveRow__initG c_LiveRow_take_over x_LiveRow_performX⟩
  have x_LiveRow_replayX : CalleeCX l.prog w K mg base CV "replay" 11 (spReplay K CR CM CV CU CO) := ⟨.type "type", p40, f40, ⟨rdCV, gaCV⟩, ⟨a40, ⟨_, r40⟩, n40⟩, ok_replay F40 T TV c_LiveRow__initG x_LiveRow_apply_allX⟩
  have FO : OutF K mg s_law_outcome "_law_outcome" "_law_call" := ⟨⟨f41, _, _, _, _, _, _, _, _, _, PySem.W.mg_of X G a41, k41, l41, c41, b41⟩⟩
  have c_law_mix : Callee l.prog w K mg base "_law_mix" 1 (spMix K) := ⟨f42, _, P_law_mix, PySem.W.mg_of X G a42, F42.kp, b42, ok_mix F42 T⟩
  have c_law_next1 : Callee l.prog w K mg base "_law_next" 1 (spNext K) := ⟨f43, _, P_law_next, PySem.W.mg_of X G a43, F43.kp, b43, ok_next F43 T⟩
  have c_law_parts : Callee l.prog w K mg base "_law_parts" 2 (spParts K) := ⟨f44, _, P_law_parts, PySem.W.mg_of X G a44, F44.kp, b44, ok_parts F44 T c_law_next1⟩
  have c_law_rowP : Callee l.prog w K mg base "_law_row" 7 (spRowP K CR) := ⟨f45, _, P_law_row, PySem.W.mg_of X G a45, F45.kp, b45, ok_lrowP F45 T c_Row__init c_Row__add sfCR⟩
  have c_law_alikeW : Callee l.prog w K mg base "_law_alike" 6 (spAlkW K 6) := ⟨f46, _, P_law_alike, PySem.W.mg_of X G a46, F46.kp, b46, ok_alike_lawW F46 T n_dict n_str n_sorted (PySem.W.mg_of X G a46) b46 6⟩
  have c_law_toldD : Callee l.prog w K mg base "_law_told" 5 (spToldD K CR CM CV) := ⟨f47, _, P_law_told, PySem.W.mg_of X G a47, F47.kp, b47, ok_toldD F47 T c_LiveRow_nowG c_LiveRow_lost_waterG c_LiveRow_missed_waterG c_LiveRow_levelsG c_LiveRow_locked_names c_LiveRow_history⟩
  have c_law_deed : Callee l.prog w K mg base "_law_deed" 2 (spDeed K) := ⟨f48, _, P_law_deed, PySem.W.mg_of X G a48, F48.kp, b48, ok_deed F48 T c_law_next1⟩
  exact ok_law hmcW hucW ⟨⟨_, _, _, _, _, _, _, _, rfl, l49, c49⟩⟩ TBW T TV FO RE K_CO K_CU xfCUname xfCOindex hneCV hneMV c_law_mix c_law_next1 c_law_parts c_law_rowP c_law_alikeW c_law_toldD c_law_deed c_LiveRow__initG x_LiveRow_pourX x_LiveRow_apply_allX x_LiveRow_replayX c_LiveRow_undo c_LiveRow_redo c_LiveRow_history
theorem walk_law {l : PySem.W.OpenLaw} {q : Program} {loose : List Str} {XP : (Str → Option Value) → Heap → Prop} {YP : World → Heap → Prop} {d : DefRec} {K : Params → PySem.W.Frag} (hn : l.most = some 63) (hdf : d.params.defaults = [])
    (hY : ∀ (w : World) (h : Heap), YP w h → (K w.params).In h)
    (F : ∀ (w : World) (mg : Str → Option Value) (fa : Addr) (h : Heap), YP w h → (K w.params).In h → h.Ns mainGlobals mg → mg d.name = some (.ref fa) → LamX.LawAtS l w (K w.params) CX0 14 63 "_law_script" mg fa h) :
    PySem.W.WalkO q loose XP YP l.row.toRowW d [] (fun f vs => PySem.call f vs) :=
  LamX.walk_ofTs (n := 63) (k := 14) (x := "_law_script") (CX := fun _ => CX0) hn (by decide) hdf ⟨rfl, by decide, by decide⟩ hY F fun _ _ _ _ _ z => z
end Bk
set_option Elab.async false
open PySem PySem.W PyProof.Rows
set_option maxRecDepth 100000 in
set_option maxHeartbeats 0 in
theorem PySem.Challenge.cw_barrelrow_k44_whole_operations_reverted_holds : PySem.Challenge.rw_barrelrow_k44_whole_operations_reverted.Holds := by
  w_on; o_law; k_head; (case hw => w_witness2)
  k_fill
  refine Bk.walk_law (l := PySem.Challenge.rw_barrelrow_k44_whole_operations_reverted) rfl rfl (fun w h Y => PySem.W.km_in_of Y) ?F
  case F =>
    intro w mg fa h Y KX G hmg
    refine' Bk.all_mk KX G hmg ?aCP ?aCR ?aCV ?aCM ?aCU ?xoCU ?xrCU ?xsCU ?xeCU ?xtCU ?xkCU ?xaCU ?xgCU ?xhCU ?xmCU ?xfCUname ?xiCU ?xjCU ?xlCU ?xcCU ?xdCU ?xvCU ?xwCU ?xxCU ?xyCU ?xpCU ?xqCU ?aCO ?xoCO ?xrCO ?xsCO ?xeCO ?xtCO ?xkCO ?xaCO ?xgCO ?xhCO ?xmCO ?xfCOindex ?xiCO ?xjCO ?xlCO ?xcCO ?xdCO ?xvCO ?xwCO ?xxCO ?xyCO ?xpCO ?xqCO ?aCN ?xnCN ?xeCN ?xtCN ?xkCN ?xaCN ?xgCN ?xhCN ?aCS ?ace0 ?ace1 ?ace4 ?ace5 ?ace6 ?nVE ?xcn ?xct ?xlCOc ?xoCOm ?xsCOx ?xvCOe ?xqCO0 ?xqCO1 ?xqCO2 ?xqCO3 ?xqCO4 ?xqCO5 ?xqCO6 ?xqCO7 ?xlCUc ?xoCUm ?xsCUx ?xvCUe ?xqCU0 ?xqCU1 ?xqCU2 ?xqCU3 ?xqCU4 ?xqCU5 ?xqCU6 ?xqCU7 ?nsup ?xtop ?xtp ?a1 ?l1 ?c1 ?k1 ?a2 ?l2 ?c2 ?k2 ?a3 ?l3 ?c3 ?k3 ?a4 ?l4 ?c4 ?k4 ?a5 ?l5 ?c5 ?k5 ?a6 ?i6 ?l6 ?c6 ?k6 ?a7 ?i7 ?l7 ?c7 ?k7 ?a8 ?i8 ?l8 ?c8 ?k8 ?a9 ?g9 ?t9 ?r9 ?l9 ?c9 ?k9 ?a10 ?g10 ?t10 ?r10 ?l10 ?c10 ?k10 ?a11 ?g11 ?t11 ?r11 ?l11 ?c11 ?k11 ?a12 ?i12 ?n12 ?l12 ?c12 ?k12 ?a13 ?i13 ?n13 ?l13 ?c13 ?k13 ?a14 ?l14 ?c14 ?k14 ?a15 ?l15 ?c15 ?k15 ?a16 ?l16 ?c16 ?k16 ?a17 ?i17 ?l17 ?c17 ?k17 ?a18 ?l18 ?c18 ?k18 ?a19 ?l19 ?c19 ?k19 ?a20 ?l20 ?c20 ?k20 ?a21 ?i21 ?l21 ?c21 ?k21 ?a22 ?i22 ?l22 ?c22 ?k22 ?a23 ?i23 ?l23 ?c23 ?k23 ?a24 ?i24 ?l24 ?c24 ?k24 ?a25 ?i25 ?l25 ?c25 ?k25 ?a26 ?i26 ?l26 ?c26 ?k26 ?a27 ?i27 ?l27 ?c27 ?k27 ?a28 ?g28 ?t28 ?r28 ?l28 ?c28 ?k28 ?a29 ?g29 ?t29 ?r29 ?l29 ?c29 ?k29 ?a30 ?g30 ?t30 ?r30 ?l30 ?c30 ?k30 ?a31 ?g31 ?t31 ?r31 ?l31 ?c31 ?k31 ?a32 ?g32 ?t32 ?r32 ?l32 ?c32 ?k32 ?a33 ?g33 ?t33 ?r33 ?l33 ?c33 ?k33 ?a34 ?l34 ?c34 ?k34 ?a35 ?i35 ?l35 ?c35 ?k35 ?a36 ?i36 ?l36 ?c36 ?k36 ?a37 ?i37 ?l37 ?c37 ?k37 ?a38 ?i38 ?l38 ?c38 ?k38 ?a39 ?i39 ?l39 ?c39 ?k39 ?a40 ?r40 ?n40 ?l40 ?c40 ?k40 ?a41 ?l41 ?c41 ?k41 ?a42 ?l42 ?c42 ?k42 ?a43 ?l43 ?c43 ?k43 ?a44 ?l44 ?c44 ?k44 ?a45 ?l45 ?c45 ?k45 ?a46 ?l46 ?c46 ?k46 ?a47 ?l47 ?c47 ?k47 ?a48 ?l48 ?c48 ?k48 ?a49 ?l49 ?c49 ?k49 ?hcdcW ?hcocW ?hvPcW ?hchcW ?hnTcW ?htbcW ?pgCP ?hdCP ?poCP ?saCP ?mkCP ?kcCP ?sfCP ?pgCR ?hdCR ?poCR ?saCR ?mkCR ?kcCR ?sfCR ?pgCV ?hdCV ?poCV ?saCV ?mkCV ?kcCV ?sfCV ?pgCM ?hdCM ?poCM ?saCM ?mkCM ?kcCM ?sfCM ?hneCV ?hneCM ?na0 ?na1 ?na2 ?na3 ?na4 ?na5 ?na6 ?na7 ?na8 ?na9 ?na10 ?na11 ?na12 ?na13 ?na14 ?na15 ?na16 ?gi0 ?gi1 ?gi2 ?gi3 ?gi4 ?gi5 ?gi6 ?gi7 ?nb0 ?nb1 ?nb2 ?nb3 ?nb4 ?nb5 ?nb6 ?nb7 ?nb8 ?nb9 ?nb10 ?nb11 ?nb12 ?nb13 ?rd ?ga ?v1 ?v2 ?rdCV ?gaCV ?nsorted ?aOP ?lOP ?lO1 ?lO2 ?lO3 ?lO4 ?hneMV ?ndict ?nstr
    (case aCP => k_is)
    (case aCR => k_is)
    (case aCV => k_is)
    (case aCM => k_is)
    (case aCU => k_is)
    (case xoCU => k_is)
    (case xrCU => decide +kernel)
    (case xsCU => k_is)
    (case xeCU => k_is)
    (case xtCU => k_is)
    (case xkCU => k_is)
    (case xaCU => k_is)
    (case xgCU => k_is)
    (case xhCU => k_is)
    (case xmCU => kernel_rfl)
    (case xfCUname => k_is)
    (case xiCU => k_is)
    (case xjCU => k_is)
    (case xlCU => k_is)
    (case xcCU => k_is)
    (case xdCU => k_is)
    (case xvCU => rfl)
    (case xwCU => kernel_rfl)
    (case xxCU => k_is)
    (case xyCU => k_is)
    (case xpCU => kernel_rfl)
    (case xqCU => k_is)
    (case aCO => k_is)
    (case xoCO => k_is)
    (case xrCO => decide +kernel)
    (case xsCO => k_is)
    (case xeCO => k_is)
    (case xtCO => k_is)
    (case xkCO => k_is)
    (case xaCO => k_is)
    (case xgCO => k_is)
    (case xhCO => k_is)
    (case xmCO => kernel_rfl)
    (case xfCOindex => k_is)
    (case xiCO => k_is)
    (case xjCO => k_is)
    (case xlCO => k_is)
    (case xcCO => k_is)
    (case xdCO => k_is)
    (case xvCO => rfl)
    (case xwCO => kernel_rfl)
    (case xxCO => k_is)
    (case xyCO => k_is)
    (case xpCO => kernel_rfl)
    (case xqCO => k_is)
    (case aCN => k_is)
    (case xnCN => kernel_rfl)
    (case xeCN => k_is)
    (case xtCN => k_is)
    (case xkCN => k_is)
    (case xaCN => k_is)
    (case xgCN => k_is)
    (case xhCN => k_is)
    (case aCS => k_is)
    (case ace0 => k_is)
    (case ace1 => k_is)
    (case ace4 => k_is)
    (case ace5 => k_is)
    (case ace6 => k_is)
    (case nVE => k_is)
    (case xcn => k_is)
    (case xct => k_is)
    (case xlCOc => k_is)
    (case xoCOm => k_is)
    (case xsCOx => kernel_rfl)
    (case xvCOe => kernel_rfl)
    (case xqCO0 => kernel_rfl)
    (case xqCO1 => kernel_rfl)
    (case xqCO2 => kernel_rfl)
    (case xqCO3 => kernel_rfl)
    (case xqCO4 => kernel_rfl)
    (case xqCO5 => kernel_rfl)
    (case xqCO6 => kernel_rfl)
    (case xqCO7 => kernel_rfl)
    (case xlCUc => k_is)
    (case xoCUm => k_is)
    (case xsCUx => kernel_rfl)
    (case xvCUe => kernel_rfl)
    (case xqCU0 => kernel_rfl)
    (case xqCU1 => kernel_rfl)
    (case xqCU2 => kernel_rfl)
    (case xqCU3 => kernel_rfl)
    (case xqCU4 => kernel_rfl)
    (case xqCU5 => kernel_rfl)
    (case xqCU6 => kernel_rfl)
    (case xqCU7 => kernel_rfl)
    (case nsup => k_is)
    (case xtop => kernel_rfl)
    (case xtp => k_is)
    (case a1 => k_is)
    (case l1 => k_is)
    (case c1 => k_is)
    (case k1 => k_is)
    (case a2 => k_is)
    (case l2 => k_is)
    (case c2 => k_is)
    (case k2 => k_is)
    (case a3 => k_is)
    (case l3 => k_is)
    (case c3 => k_is)
    (case k3 => k_is)
    (case a4 => k_is)
    (case l4 => k_is)
    (case c4 => k_is)
    (case k4 => k_is)
    (case a5 => k_is)
    (case l5 => k_is)
    (case c5 => k_is)
    (case k5 => k_is)
    (case a6 => k_is)
    (case i6 => k_is)
    (case l6 => k_is)
    (case c6 => k_is)
    (case k6 => k_is)
    (case a7 => k_is)
    (case i7 => k_is)
    (case l7 => k_is)
    (case c7 => k_is)
    (case k7 => k_is)
    (case a8 => k_is)
    (case i8 => k_is)
    (case l8 => k_is)
    (case c8 => k_is)
    (case k8 => k_is)
    (case a9 => k_is)
    (case g9 => k_is)
    (case t9 => k_is)
    (case r9 => k_is)
    (case l9 => k_is)
    (case c9 => k_is)
    (case k9 => k_is)
    (case a10 => k_is)
    (case g10 => k_is)
    (case t10 => k_is)
    (case r10 => k_is)
    (case l10 => k_is)
    (case c10 => k_is)
    (case k10 => k_is)
    (case a11 => k_is)
    (case g11 => k_is)
    (case t11 => k_is)
    (case r11 => k_is)
    (case l11 => k_is)
    (case c11 => k_is)
    (case k11 => k_is)
    (case a12 => k_is)
    (case i12 => k_is)
    (case n12 => k_is)
    (case l12 => k_is)
    (case c12 => k_is)
    (case k12 => k_is)
    (case a13 => k_is)
    (case i13 => k_is)
    (case n13 => k_is)
    (case l13 => k_is)
    (case c13 => k_is)
    (case k13 => k_is)
    (case a14 => k_is)
    (case l14 => k_is)
    (case c14 => k_is)
    (case k14 => k_is)
    (case a15 => k_is)
    (case l15 => k_is)
    (case c15 => k_is)
    (case k15 => k_is)
    (case a16 => k_is)
    (case l16 => k_is)
    (case c16 => k_is)
    (case k16 => k_is)
    (case a17 => k_is)
    (case i17 => k_is)
    (case l17 => k_is)
    (case c17 => k_is)
    (case k17 => k_is)
    (case a18 => k_is)
    (case l18 => k_is)
    (case c18 => k_is)
    (case k18 => k_is)
    (case a19 => k_is)
    (case l19 => k_is)
    (case c19 => k_is)
    (case k19 => k_is)
    (case a20 => k_is)
    (case l20 => k_is)
    (case c20 => k_is)
    (case k20 => k_is)
    (case a21 => k_is)
    (case i21 => k_is)
    (case l21 => k_is)
    (case c21 => k_is)
    (case k21 => k_is)
    (case a22 => k_is)
    (case i22 => k_is)
    (case l22 => k_is)
    (case c22 => k_is)
    (case k22 => k_is)
    (case a23 => k_is)
    (case i23 => k_is)
    (case l23 => k_is)
    (case c23 => k_is)
    (case k23 => k_is)
    (case a24 => k_is)
    (case i24 => k_is)
    (case l24 => k_is)
    (case c24 => k_is)
    (case k24 => k_is)
    (case a25 => k_is)
    (case i25 => k_is)
    (case l25 => k_is)
    (case c25 => k_is)
    (case k25 => k_is)
    (case a26 => k_is)
    (case i26 => k_is)
    (case l26 => k_is)
    (case c26 => k_is)
    (case k26 => k_is)
    (case a27 => k_is)
    (case i27 => k_is)
    (case l27 => k_is)
    (case c27 => k_is)
    (case k27 => k_is)
    (case a28 => k_is)
    (case g28 => k_is)
    (case t28 => k_is)
    (case r28 => k_is)
    (case l28 => k_is)
    (case c28 => k_is)
    (case k28 => k_is)
    (case a29 => k_is)
    (case g29 => k_is)
    (case t29 => k_is)
    (case r29 => k_is)
    (case l29 => k_is)
    (case c29 => k_is)
    (case k29 => k_is)
    (case a30 => k_is)
    (case g30 => k_is)
    (case t30 => k_is)
    (case r30 => k_is)
    (case l30 => k_is)
    (case c30 => k_is)
    (case k30 => k_is)
    (case a31 => k_is)
    (case g31 => k_is)
    (case t31 => k_is)
    (case r31 => k_is)
    (case l31 => k_is)
    (case c31 => k_is)
    (case k31 => k_is)
    (case a32 => k_is)
    (case g32 => k_is)
    (case t32 => k_is)
    (case r32 => k_is)
    (case l32 => k_is)
    (case c32 => k_is)
    (case k32 => k_is)
    (case a33 => k_is)
    (case g33 => k_is)
    (case t33 => k_is)
    (case r33 => k_is)
    (case l33 => k_is)
    (case c33 => k_is)
    (case k33 => k_is)
    (case a34 => k_is)
    (case l34 => k_is)
    (case c34 => k_is)
    (case k34 => k_is)
    (case a35 => k_is)
    (case i35 => k_is)
    (case l35 => k_is)
    (case c35 => k_is)
    (case k35 => k_is)
    (case a36 => k_is)
    (case i36 => k_is)
    (case l36 => k_is)
    (case c36 => k_is)
    (case k36 => k_is)
    (case a37 => k_is)
    (case i37 => k_is)
    (case l37 => k_is)
    (case c37 => k_is)
    (case k37 => k_is)
    (case a38 => k_is)
    (case i38 => k_is)
    (case l38 => k_is)
    (case c38 => k_is)
    (case k38 => k_is)
    (case a39 => k_is)
    (case i39 => k_is)
    (case l39 => k_is)
    (case c39 => k_is)
    (case k39 => k_is)
    (case a40 => k_is)
    (case r40 => k_is)
    (case n40 => k_is)
    (case l40 => k_is)
    (case c40 => k_is)
    (case k40 => k_is)
    (case a41 => k_is)
    (case l41 => k_is)
    (case c41 => k_is)
    (case k41 => k_is)
    (case a42 => k_is)
    (case l42 => k_is)
    (case c42 => k_is)
    (case k42 => k_is)
    (case a43 => k_is)
    (case l43 => k_is)
    (case c43 => k_is)
    (case k43 => k_is)
    (case a44 => k_is)
    (case l44 => k_is)
    (case c44 => k_is)
    (case k44 => k_is)
    (case a45 => k_is)
    (case l45 => k_is)
    (case c45 => k_is)
    (case k45 => k_is)
    (case a46 => k_is)
    (case l46 => k_is)
    (case c46 => k_is)
    (case k46 => k_is)
    (case a47 => k_is)
    (case l47 => k_is)
    (case c47 => k_is)
    (case k47 => k_is)
    (case a48 => k_is)
    (case l48 => k_is)
    (case c48 => k_is)
    (case k48 => k_is)
    (case a49 => k_is)
    (case l49 => k_is)
    (case c49 => k_is)
    (case k49 => k_is)
    (case hcdcW => rfl)
    (case hcocW => k_is)
    (case hvPcW => rfl)
    (case hchcW => kernel_rfl)
    (case hnTcW => kernel_rfl)
    (case htbcW => exact PySem.W.km_tabs_of Y _ (by k_mem))
    (case pgCP => k_is)
    (case hdCP => k_is)
    (case poCP => k_is)
    (case saCP => k_is)
    (case mkCP => k_is)
    (case kcCP => k_is)
    (case sfCP => k_is)
    (case pgCR => k_is)
    (case hdCR => k_is)
    (case poCR => k_is)
    (case saCR => k_is)
    (case mkCR => k_is)
    (case kcCR => k_is)
    (case sfCR => k_is)
    (case pgCV => k_is)
    (case hdCV => k_is)
    (case poCV => k_is)
    (case saCV => k_is)
    (case mkCV => k_is)
    (case kcCV => k_is)
    (case sfCV => k_is)
    (case pgCM => k_is)
    (case hdCM => k_is)
    (case poCM => k_is)
    (case saCM => k_is)
    (case mkCM => k_is)
    (case kcCM => k_is)
    (case sfCM => k_is)
    (case hneCV => decide)
    (case hneCM => decide)
    (case na0 => k_is)
    (case na1 => k_is)
    (case na2 => k_is)
    (case na3 => k_is)
    (case na4 => k_is)
    (case na5 => k_is)
    (case na6 => k_is)
    (case na7 => k_is)
    (case na8 => k_is)
    (case na9 => k_is)
    (case na10 => k_is)
    (case na11 => k_is)
    (case na12 => k_is)
    (case na13 => k_is)
    (case na14 => k_is)
    (case na15 => k_is)
    (case na16 => k_is)
    (case gi0 => k_is)
    (case gi1 => k_is)
    (case gi2 => k_is)
    (case gi3 => k_is)
    (case gi4 => k_is)
    (case gi5 => k_is)
    (case gi6 => k_is)
    (case gi7 => k_is)
    (case nb0 => k_is)
    (case nb1 => k_is)
    (case nb2 => k_is)
    (case nb3 => k_is)
    (case nb4 => k_is)
    (case nb5 => k_is)
    (case nb6 => k_is)
    (case nb7 => k_is)
    (case nb8 => k_is)
    (case nb9 => k_is)
    (case nb10 => k_is)
    (case nb11 => k_is)
    (case nb12 => k_is)
    (case nb13 => k_is)
    (case rd => k_is)
    (case ga => k_is)
    (case v1 => k_is)
    (case v2 => k_is)
    (case rdCV => k_is)
    (case gaCV => k_is)
    (case nsorted => k_is)
    (case aOP => k_is)
    (case lOP => k_is)
    (case lO1 => k_is)
    (case lO2 => k_is)
    (case lO3 => k_is)
    (case lO4 => k_is)
    (case hneMV => decide)
    (case ndict => k_is)
    (case nstr => k_is)
#print axioms PySem.Challenge.cw_barrelrow_k44_whole_operations_reverted_holds
