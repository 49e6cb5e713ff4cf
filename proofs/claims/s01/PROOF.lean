import PyProof.Rows.All
import Wide.All
import OpenK.AllK
import Wide.FinOn
import PyProof.EqAt
import PyProof.EqKinds
import PyProof.TupleCall
import Open.SpecLaws
import KE.OsGo
import KE.KDictList
import HandS.ForSpec
import HandS.ForMost
import HandS.More
import HandS.Conv
import HandS.Steps
import HandS.Walk
import HandS.SortInts
import PySem.Challenge.RW_coarsekept_s01_answers
set_option Elab.async false
set_option linter.all false
set_option maxRecDepth 100000
set_option maxHeartbeats 2000000
/-! Rules that the layer lacks. -/
namespace CkL
open PySem PySem.Spec PyProof.Rows L2
/-! ### a dict of the module, int keys -/
/-- each entry's key is an int, its hash that int's -/
def KeysI (es : List DictEntry) : Prop := ∀ en ∈ es, ∃ i t, en.key = .int i t ∧ en.hash = hashInt i
def KDctI (K : PySem.W.Frag) (a : Addr) (i : Int) (v : V) : Prop :=
  ∃ es n u, K.lookup a = some ⟨.type "dict", none, .dict es n, #[]⟩ ∧ KeysI es.toList ∧ findBy Value.isInt es i = some u ∧ RelV v u
def rIxI (K : PySem.W.Frag) : R2 := fun x y H Q => ∃ p i v, x = .ref p ∧ y = .int i ∧ KDctI K p i v ∧ Q v H
theorem isInt_self (i : Int) (t : Tok) : Value.isInt i (.int i t) = true := by simp [Value.isInt]
theorem map_kdictI {prog : Program} {w : World} {K : PySem.W.Frag} {h : Heap} {a : Addr} {es : Array DictEntry} {n : Nat} (kin : K.In h) (at_ : K.lookup a = some ⟨.type "dict", none, .dict es n, #[]⟩) (ks : KeysI es.toList) : h.MapOf (intKind prog w) a (fun i => findBy Value.isInt es i) := by
  refine ⟨_, es, n, kin _ _ at_, ⟨rfl, rfl, rfl⟩, rfl, fun en hen => ?_, fun _ => rfl⟩
  obtain ⟨i, t, hkey, hhash⟩ := ks en (Array.mem_toList_iff.mpr hen)
  exact ⟨i, by rw [hkey]; exact isInt_self i t, hhash⟩
theorem ix_kdictI {X : Cx} : IxR X (rIxI X.K) := by
  intro ev es' pins sh σ H xd yk ud uk Q inv rd rk rdg hsub
  obtain ⟨ad, i, v, rfl, rfl, ⟨es, n, u, at_, ks, found, rv⟩, hQ⟩ := rdg
  cases rd
  obtain ⟨tok, rfl⟩ := rk
  have mp := map_kdictI (prog := X.prog) (w := X.w) inv.kIn at_ ks
  exact tail_any mp.typeIs slot_dict_getitem.lookup (wpAny_getItem_of (knd := intKind X.prog X.w) (isInt_self i tok) mp found ⟨v, H, inv.tok _, rv, hQ⟩) hsub
theorem pair_at {A B : Type} {G : A → B → Prop} : ∀ {xs : List A} {ys : List B}, Paired G xs ys → ∀ {i : Nat} {x : A}, xs[i]? = some x → ∃ y, ys[i]? = some y ∧ G x y
  | _, _, .nil, _, _, h => by cases h
  | _, _, .cons r _, 0, _, h => ⟨_, rfl, Option.some.inj h ▸ r⟩
  | _, _, .cons _ t, _ + 1, _, h => pair_at t h
/-! ### list(d.values()) -/
def rValsL : V → Hp → VK → Prop := fun x H Q => ∃ (d : Addr) (kvs : List (Key × V)), x = .ref d ∧ H d = some (.dK kvs) ∧ ∀ p, H p = none → Q (.ref p) (upd H p (.lst (kvs.map (·.2))))
def tListVals (te : TE) : TE := fun σ H Q => te σ H fun x H1 => rValsL x H1 Q
/-- the values of the dict, as the list lays them -/
theorem vals_laid {kvs : List (Key × V)} {vs : List (Key × Value)} (rel : KV kvs vs) {acc : Array Value} {n : Nat} (hn : n = vs.length) (it : ItemsOf (fun i v => ∃ k, vs[i]? = some (k, v)) acc n) : Vals (kvs.map (·.2)) acc.toList := by
  have size : acc.toList.length = n := by rw [Array.length_toList]; exact it.1
  refine vals_of_at (by rw [List.length_map, size, hn]; exact Paired.length rel) fun j x u hx hu => ?_
  obtain ⟨k, hk⟩ := it.2 j u (by rw [← Array.getElem?_toList]; exact hu)
  rw [List.getElem?_map] at hx
  obtain ⟨kx, hkx, rfl⟩ := Option.map_eq_some_iff.mp hx
  obtain ⟨ku, hku, _, r⟩ := pair_at rel hkx
  rw [hk] at hku
  cases hku
  exact r
theorem pe_listVals {X : Cx} {o : Expr} {to : TE} {p1 p2 p3 p4 : Pos} (calm : X.calm = true) (ho : PE X o to) (gl : Gl X "list") (mgl : X.mg "list" = none) (bl : bootBuiltins "list" = some (.type "list")) (base_ : attributeBase o "values" X.env (eval o X.env) = eval o X.env := by rfl) (line_ : (p2.endLine == p3.line) = true := by rfl)
    (star_ : starEach [.Call (.Attribute o "values" p2) [] [] p3] X.env = (false, eval (.Call (.Attribute o "values" p2) [] [] p3) X.env) :: starEach [] X.env := by rfl) :
    PE X (.Call (.Name "list" p1) [.Call (.Attribute o "values" p2) [] [] p3] [] p4) (tListVals to) :=
  ⟨fun pins sh σ H Q inv rdg => by
    refine wpAny_Call_Name_kw (ld_blt inv gl mgl bl (PyProof.Rows.callWith_type1 ?_ star_ rfl))
    rw [star_]
    refine Calls.spliced_cons (rest := backTo p4 (starEach [] X.env)) (wpAny_Call_method (T := "dict") (id := "dict.values") base_ rfl line_ F.plainAttrs_dict F.slot_dict_values F.type_dict_values (thn (ho.run pins sh σ H _ inv rdg) ?_))
    rintro ud sh1 ⟨xd, H1, inv1, rd, ad, kvs, rfl, had, hQ⟩
    cases rd
    obtain ⟨small, low, vs, rel, dof⟩ := inv1.hok ad _ had
    obtain ⟨epoch, dat⟩ := dof.dictAt
    have len_ : kvs.length = vs.length := Paired.length rel
    have inv2 := inv1.kept (t' := sh1.toks) (h' := sh1.heap.push { cls := .type "dict_values", data := .fields #[.ref ad] }) fun b ob z => Heap.get?_push_of_some _ z
    refine ⟨dof.typeIs, dof.mapOf.noDict, method_meetsIn F.slot_dict_values F.entry_dict_values rfl (PySem.evalArgs_none ⟨rfl, dof.typeIs, F.args_dict_values_1 _, _, meets_dict_values (mixKind X.prog X.w) ad low, ⟨vs, dof⟩, Calls.spliced_nil ?_⟩)⟩
    refine PySem.W.kdl_call (PySem.W.kdl_values (knd := mixKind X.prog X.w) (kvs := vs) (ep := epoch)) (inv1.ok.hd calm) ⟨⟨_, Heap.get?_push_size _ rfl, rfl, rfl⟩, dat.push _⟩ (by omega) fun hp tk acc c keep_ laid_ items_ => ?_
    refine ⟨.ref _, _, inv2.laid (o := .lst (kvs.map (·.2))) keep_ (Nat.le_refl _) ?_, rfl, hQ _ (inv2.hok.fresh (Nat.le_refl _))⟩
    exact ⟨by rw [List.length_map]; exact small, acc.toList, c, vals_laid rel rfl items_, by rw [Array.toArray_toList]; exact laid_⟩⟩
/-! ### sorted(d): the keys of a dict, all of them ints, any number -/
def rSortedK : List V → Hp → VK → Prop := fun xs H Q => ∃ (d : Addr) (kvs : List (Key × V)) (ks : List Int), xs = [.ref d] ∧ Rd H d (.dK kvs) ∧ kvs.map (·.1) = ks.map Sum.inl ∧ ∀ (ns : List Int) (p : Addr), ns.Perm ks → ns.Pairwise (· ≤ ·) → H p = none → Q (.ref p) (upd H p (.lst (ns.map V.int)))
theorem key_int {y : Int} {v : Value} (e : keyIs (Sum.inl y) v = true) : ∃ t, v = Value.int y t := by
  rcases keyIs_shape e with ⟨i, t, ek, ev⟩ | ⟨z, t, ek, ev⟩
  · cases ek; exact ⟨t, ev⟩
  · cases ek
theorem cr_sortedK {X : Cx} (calm : X.calm = true) : CallR X (.builtin "sorted") rSortedK := by
  intro pins sh σ H xs us Q inv rxs rdg
  obtain ⟨ad, kvs, ks, rfl, had, keys_, hQ⟩ := rdg
  obtain ⟨ud, rfl, rd⟩ := vals1 rxs
  cases rd
  obtain ⟨small, low, vs, rel, dof⟩ := dk_rd inv.hok had
  obtain ⟨epoch, dat⟩ := dof.dictAt
  have names_ : vs.map (·.1) = ks.map Sum.inl := rel.keys.symm.trans keys_
  have len_ : vs.length = ks.length := by simpa using congrArg List.length names_
  have fits : vs.length ≤ sizeLine := by rw [← rel.length]; exact small
  refine Calls.call_function_entry kind_sorted plain_sorted entry_sorted (args_sorted1 _) ?_
  unfold Builtin.«sorted»
  refine wpAny_bind (m := checkCount "sorted" 1 1 _) (wpAny_pure (wpAny_bind (PySem.W.kdu_collect (A := X.A.in1) (PySem.W.kdl_dict (knd := mixKind X.prog X.w) (kvs := vs) (ep := epoch) low) (inv.ok.hd calm) dat fits fun hp tk acc keep_ items_ => ?_)))
  have size_ : acc.toList.length = ks.length := by rw [Array.length_toList, items_.1, len_]
  have ints_ : IntsAre acc.toList ks := ints_each size_ fun j v e => by
    obtain ⟨k, x, at_, is_⟩ := items_.2 j v (by rw [← Array.getElem?_toList]; exact e)
    have n_ : (ks.map Sum.inl)[j]? = some k := by rw [← names_, List.getElem?_map, at_]; rfl
    rw [List.getElem?_map] at n_
    obtain ⟨y, hy, rfl⟩ := Option.map_eq_some_iff.mp n_
    obtain ⟨t, ev⟩ := key_int (show keyIs (Sum.inl y) v = true from is_)
    exact ⟨y, t, hy, ev⟩
  have inv1 : Inv X pins σ H { sh with heap := hp, toks := tk } := inv.kept keep_
  have fits2 : acc.toList.length ≤ sizeLine := by rw [size_, ← len_]; exact fits
  refine wpAny_bind (wpAny_newList ?_ fits2)
  have laid_ : (hp.push (seqObj "list" acc.toList.toArray 0)).get? hp.objs.size = some (seqObj "list" acc.toList.toArray 0) := Heap.get?_push_size _ rfl
  show wpAny _ _ _ _ _ ({ sh with heap := hp.push (seqObj "list" acc.toList.toArray 0), toks := tk } : Shared)
  refine wpAny_bind (wpAny_holding (wpAny_call_entry slot_list_sort ⟨_, laid_, rfl⟩ entry_list_sort (SrtO.list_sort_ord SrtO.swo_int laid_ fits2 (fun two => SrtO.ints_sortable ints_ two) fun out o1 o2 => ⟨_, rfl, ?_⟩) (args_list_sort _)))
  obtain ⟨k1, k2, k3⟩ := SrtO.ints_out ints_ o1 o2
  obtain ⟨ep2, end_⟩ := sortedHeap_at (vs := acc.toList) (out := out.toArray) laid_
  have fits3 : ((out.map SrtO.iv).map V.int).length ≤ sizeLine := by
    rw [List.length_map, k2.length_eq, ← len_]; exact fits
  refine wpAny_pure ⟨_, rfl, .ref hp.objs.size, upd H hp.objs.size (.lst ((out.map SrtO.iv).map V.int)), inv1.laid (t' := tk) (fun b u e => ?_) (Nat.le_refl _) ⟨fits3, out, ep2, vals_of_ints k1, end_⟩, rfl, hQ _ _ k2 k3 (inv1.hok.fresh (Nat.le_refl _))⟩
  have less : b < hp.objs.size := Heap.lt_size e
  exact (sortedHeap_old (Nat.ne_of_lt less) (by rw [size_push']; exact Nat.lt_succ_of_lt less)).trans (Heap.get?_push_of_some _ e)
/-! ### an attribute within a comprehension -/
theorem pe_fldB {X : Cx} {K : PySem.W.Frag} {e : Expr} {ta : TE} {f : Str} {pos : Pos} (hK : X.K = K) (he : PE X e ta) (hb : attributeBase e f X.env (eval e X.env) = eval e X.env) : PE X (.Attribute e f pos) (tFld K ta f) := by
  subst hK
  exact pe_fld he hb
/-! ### a op b op c op d -/
def tChain3 (r r' r2 : R2) (ta tb tc td : TE) : TE := fun σ H Q => ta σ H fun x H1 => tb σ H1 fun y H2 => r x y H2 fun z H3 => ∃ k, z = .bl k ∧
  (if k = true then tc σ H3 fun w' H4 => r' y w' H4 fun z' H5 => ∃ k', z' = .bl k' ∧ (if k' = true then td σ H5 fun v' H6 => r2 w' v' H6 Q else Q (.bl false) H5) else Q (.bl false) H3)
theorem pe_chain3 {X : Cx} {a b c d : Expr} {ta tb tc td : TE} {pos : Pos} {op op' op2 : CmpOp} {r r' r2 : R2} (o1 : OpR X (compareOp op) r) (o2 : OpR X (compareOp op') r') (o3 : OpR X (compareOp op2) r2) (ha : PE X a ta) (hb : PE X b tb) (hc : PE X c tc) (hd : PE X d td)
    (marks : lastMarks [op, op', op2] [b, c, d] = false := by with_unfolding_all rfl) : PE X (.Compare a [op, op', op2] [b, c, d] pos) (tChain3 r r' r2 ta tb tc td) := by
  constructor
  intro pins sh σ H Q inv rdg
  refine Compare_chain (thn (ha.run pins sh σ H _ inv rdg) ?_) marks
  rintro ua sA ⟨xa, HA, invA, ra, rdgA⟩
  refine chain_link (thn (hb.run pins sA σ HA _ invA rdgA) ?_)
  rintro ub sB ⟨xb, HB, invB, rb, rdgB⟩
  refine thn (o1 pins sB σ HB xa xb ua ub _ invB ra rb rdgB) ?_
  rintro u1 s1 ⟨z1, H1, inv1, r1, k1, rfl, rdg1⟩
  cases r1
  refine wpAny_truthy_bool ?_
  cases k1 with
  | false => exact ite_ff ⟨V.bl false, H1, inv1, rfl, rdg1⟩
  | true =>
    refine ite_tt (chain_link (thn (hc.run pins s1 σ H1 _ inv1 rdg1) ?_))
    rintro uc sC ⟨xc, HC, invC, rc, rdgC⟩
    refine thn (o2 pins sC σ HC xb xc ub uc _ invC rb rc rdgC) ?_
    rintro u2 s2 ⟨z2, H2, inv2, r2', k2, rfl, rdg2⟩
    cases r2'
    refine wpAny_truthy_bool ?_
    cases k2 with
    | false => exact ite_ff ⟨V.bl false, H2, inv2, rfl, rdg2⟩
    | true =>
      refine ite_tt (chain_last (thn (hd.run pins s2 σ H2 _ inv2 rdg2) ?_))
      rintro ud sD ⟨xd, HD, invD, rd, rdgD⟩
      exact o3 pins sD σ HD xc xd uc ud Q invD rc rd rdgD
/-! ### readings by their values -/
def ValA (t : TA) (σ : L2.St) (H : Hp) (vs : List V) : Prop := ∀ Q : List V → Hp → Prop, Q vs H → t σ H Q
section
variable {σ : L2.St} {H : Hp} {v x y z : V} {ta tb tc td te : TE} {t : TA} {vs : List V} {i j k l : Int} {b c : Bool} {K : PySem.W.Frag}
theorem va_nil : ValA tNil σ H [] := fun _ q => q
theorem va_cons (h : Val te σ H v) (r : ValA t σ H vs) : ValA (tCons te t) σ H (v :: vs) := fun Q q => h _ (r _ q)
theorem Val.to (h : Val te σ H v) (e : v = x) : Val te σ H x := e ▸ h
theorem val_i {f : Int → Int → V} (ha : Val ta σ H (.int i)) (hb : Val tb σ H (.int j)) : Val (tOp (rI0 f) ta tb) σ H (f i j) := val_op ha hb fun _ q => ⟨i, j, rfl, rfl, q⟩
theorem val_ic {C : Int → Int → Prop} {f : Int → Int → V} (ha : Val ta σ H (.int i)) (hb : Val tb σ H (.int j)) (hc : C i j) : Val (tOp (rI C f) ta tb) σ H (f i j) := val_op ha hb fun _ q => ⟨i, j, rfl, rfl, hc, q⟩
theorem val_eq (ha : Val ta σ H x) (hb : Val tb σ H y) (hs : scal x y = true) : Val (tOp rEq ta tb) σ H (.bl (decide (x = y))) := val_op ha hb fun _ q => ⟨hs, q⟩
theorem val_ne (ha : Val ta σ H x) (hb : Val tb σ H y) (hs : scal x y = true) : Val (tOp rNe ta tb) σ H (.bl (!decide (x = y))) := val_op ha hb fun _ q => ⟨hs, q⟩
theorem val_cb {r : List V → Hp → VK → Prop} (ha : ValA t σ H vs) (hr : ∀ Q : VK, Q v H → r vs H Q) : Val (tCB r t) σ H v := fun Q q => ha _ (hr Q q)
theorem val_max (ha : Val ta σ H (.int i)) (hb : Val tb σ H (.int j)) : Val (tCB (fun xs H Q => ∃ i j, xs = [.int i, .int j] ∧ Q (.int (if j > i then j else i)) H) (tCons ta (tCons tb tNil))) σ H (.int (max i j)) := by
  refine val_cb (va_cons ha (va_cons hb va_nil)) fun Q q => ⟨i, j, rfl, ?_⟩
  have e : (if j > i then j else i) = max i j := by split <;> omega
  rw [e]; exact q
theorem val_min (ha : Val ta σ H (.int i)) (hb : Val tb σ H (.int j)) : Val (tCB (fun xs H Q => ∃ i j, xs = [.int i, .int j] ∧ Q (.int (if j < i then j else i)) H) (tCons ta (tCons tb tNil))) σ H (.int (min i j)) := by
  refine val_cb (va_cons ha (va_cons hb va_nil)) fun Q q => ⟨i, j, rfl, ?_⟩
  have e : (if j < i then j else i) = min i j := by split <;> omega
  rw [e]; exact q
theorem val_call {sp : Sp} {E : XK} (ha : ValA t σ H vs) (hr : ∀ (Q : VK), Q v H → sp (vs ++ []) H Q E) : Val (tCall sp [] E t) σ H v := fun Q q => ha _ (hr Q q)
theorem val_and (ha : Val ta σ H (.bl b)) (hb : b = true → Val tb σ H (.bl c)) : Val (tAndV ta tb) σ H (.bl (b && c)) := by
  intro Q q
  refine ha _ ⟨b, rfl, ?_⟩
  cases b with
  | true => exact iteT (hb rfl Q q)
  | false => exact iteF q
theorem val_or (ha : Val ta σ H (.bl b)) (hb : b = false → Val tb σ H (.bl c)) : Val (tOrV ta tb) σ H (.bl (b || c)) := by
  intro Q q
  refine ha _ ⟨b, rfl, ?_⟩
  cases b with
  | true => exact iteT q
  | false => exact iteF (hb rfl Q q)
theorem val_not (ha : Val ta σ H (.bl b)) : Val (tNotV ta) σ H (.bl (!b)) := fun Q q => ha _ ⟨b, rfl, q⟩
theorem ans_test (ha : Val ta σ H (.bl b)) : Ans (tTest ta) σ H b := fun Q q => ha _ ⟨b, rfl, q⟩
theorem val_neg (ha : Val ta σ H (.int i)) : Val (tUn (rU fun i => .int (-i)) ta) σ H (.int (-i)) := fun Q q => ha _ ⟨i, rfl, q⟩
theorem val_chain3 {f g h : Int → Int → Bool} (ha : Val ta σ H (.int i)) (hb : Val tb σ H (.int j)) (hc : Val tc σ H (.int k)) (hd : Val td σ H (.int l)) :
    Val (tChain3 (rI0 fun i j => .bl (f i j)) (rI0 fun i j => .bl (g i j)) (rI0 fun i j => .bl (h i j)) ta tb tc td) σ H (.bl (f i j && (g j k && h k l))) := by
  intro Q q
  refine ha _ (hb _ ⟨i, j, rfl, rfl, _, rfl, ?_⟩)
  cases e1 : f i j with
  | false =>
    rw [e1] at q
    exact iteF q
  | true =>
    rw [e1] at q
    refine iteT (hc _ ⟨j, k, rfl, rfl, _, rfl, ?_⟩)
    cases e2 : g j k with
    | false =>
      rw [e2] at q
      exact iteF q
    | true =>
      rw [e2] at q
      exact iteT (hd _ ⟨k, l, rfl, rfl, q⟩)
theorem ans_ite {p q : TS} {D : Ends} {tt : TT} (h : Ans tt σ H b) (h1 : b = true → p D σ H) (h2 : b = false → q D σ H) : tIfS tt p q D σ H := by
  cases b with
  | true => exact st_yes h (h1 rfl)
  | false => exact st_no h (h2 rfl)
theorem st_inc {n : Nat} {D : Ends} {f : Int → Int → Int} (hx : σ[n]? = some (some (.int i))) (h : Val te σ H (.int j)) (q : D.nx (σ.set n (some (.int (f i j)))) H) : tAug n te (ipI f) D σ H := ⟨_, hx, h _ ⟨i, j, rfl, rfl, q⟩⟩
end
/-- a def by name, as a caller has it -/
structure Def (P : Program) (w : World) (K : PySem.W.Frag) (mg : Str → Option Value) (base : Heap) (x : Str) (k : Nat) (ps : List Str) (sp : Sp) (f : Addr) (fd : FuncData) : Prop where
  ok : FnOk P w K mg base CX0 k f fd ps sp
  mgf : mg x = some (.ref f)
  kp : PySem.W.keepIn K (.ref f) = true
  b : Binds K fd ps []
/-- a method by name, as a caller has it -/
structure Mth (P : Program) (w : World) (K : PySem.W.Frag) (mg : Str → Option Value) (base : Heap) (C : Addr) (x : Str) (k : Nat) (ps : List Str) (sp : Sp) (f : Addr) (fd : FuncData) : Prop where
  ok : FnOk P w K mg base CX0 k f fd ps sp
  m : Meth K C x f
  b : Binds K fd ps []
/-! ### attributes -/
theorem lk_here {k : Str} {v : V} {r : List (Str × V)} : List.lookup k ((k, v) :: r) = some v := by
  have e : (k == k) = true := beq_self_eq_true k
  simp only [List.lookup, e]
theorem lk_past {k g : Str} {v : V} {r : List (Str × V)} (h : (k == g) = false) : List.lookup k ((g, v) :: r) = List.lookup k r := by
  simp only [List.lookup, h]
theorem put_here {f : Str} {v x : V} {r : List (Str × V)} : putF f v ((f, x) :: r) = (f, v) :: r := if_pos rfl
theorem put_past {f g : Str} {v x : V} {r : List (Str × V)} (h : ¬ g = f) : putF f v ((g, x) :: r) = (g, x) :: putF f v r := if_neg h
end CkL

set_option maxRecDepth 100000
/-! The mirror of the program over plain lists, and that it is the specification. -/
namespace Ck
open Sq38
abbrev D := List (Nat × Bucket)
/-- a dict's store of a bucket joined to what stands at the key -/
def ups (k : Nat) (b : Bucket) : D → D
  | [] => [(k, b)]
  | x :: l => if x.1 = k then (k, x.2.with_ b) :: l else x :: ups k b l
def keys (l : D) : List Nat := l.map (·.1)
theorem with_comm (a b : Bucket) : a.with_ b = b.with_ a := by
  unfold Bucket.with_
  simp only [Bucket.mk.injEq]
  refine ⟨by omega, by omega, by omega, by omega, by omega, by omega⟩
theorem with_rc (a b c : Bucket) : (a.with_ b).with_ c = (a.with_ c).with_ b := by
  unfold Bucket.with_
  simp only [Bucket.mk.injEq]
  refine ⟨by omega, by omega, by omega, by omega, by omega, by omega⟩
theorem put_comm (k1 k2 : Nat) (b1 b2 : Bucket) : ∀ t : Tier, put k1 b1 (put k2 b2 t) = put k2 b2 (put k1 b1 t)
  | [] => by
    show (if k1 < k2 then (k1, b1) :: (k2, b2) :: [] else if k1 = k2 then (k1, b2.with_ b1) :: [] else (k2, b2) :: [(k1, b1)]) = (if k2 < k1 then (k2, b2) :: (k1, b1) :: [] else if k2 = k1 then (k2, b1.with_ b2) :: [] else (k1, b1) :: [(k2, b2)])
    rcases Nat.lt_trichotomy k1 k2 with h | h | h
    · rw [if_pos h, if_neg (by omega), if_neg (by omega)]
    · subst h
      rw [if_neg (Nat.lt_irrefl _), if_pos rfl, if_neg (Nat.lt_irrefl _), if_pos rfl, with_comm]
    · rw [if_neg (by omega), if_neg (by omega), if_pos h]
  | x :: l => by
    have ih := put_comm k1 k2 b1 b2 l
    have e : ∀ (k : Nat) (b : Bucket) (x : Nat × Bucket) (l : Tier), put k b (x :: l) = if k < x.1 then (k, b) :: x :: l else if k = x.1 then (k, x.2.with_ b) :: l else x :: put k b l := fun _ _ _ _ => rfl
    obtain ⟨xk, xb⟩ := x
    have E : ∀ (k : Nat) (b : Bucket) (yk : Nat) (yb : Bucket) (l : Tier), put k b ((yk, yb) :: l) = if k < yk then (k, b) :: (yk, yb) :: l else if k = yk then (k, yb.with_ b) :: l else (yk, yb) :: put k b l := fun _ _ _ _ _ => rfl
    have L : ∀ {k yk : Nat} (b yb : Bucket) (l : Tier), k < yk → put k b ((yk, yb) :: l) = (k, b) :: (yk, yb) :: l := fun b yb l h => by rw [E, if_pos h]
    have Q : ∀ {yk : Nat} (b yb : Bucket) (l : Tier), put yk b ((yk, yb) :: l) = (yk, yb.with_ b) :: l := fun b yb l => by rw [E, if_neg (Nat.lt_irrefl _), if_pos rfl]
    have G : ∀ {k yk : Nat} (b yb : Bucket) (l : Tier), yk < k → put k b ((yk, yb) :: l) = (yk, yb) :: put k b l := fun b yb l h => by rw [E, if_neg (by omega), if_neg (by omega)]
    rcases Nat.lt_trichotomy k1 xk with h1 | h1 | h1 <;> rcases Nat.lt_trichotomy k2 xk with h2 | h2 | h2
    · rcases Nat.lt_trichotomy k1 k2 with h3 | h3 | h3
      · rw [L _ _ _ h2, L _ _ _ h1, L _ _ _ h3, G _ _ _ h3, L _ _ _ h2]
      · subst h3
        rw [L _ _ _ h2, L _ _ _ h1, Q, Q, with_comm]
      · rw [L _ _ _ h2, L _ _ _ h1, L _ _ _ h3, G _ _ _ h3, L _ _ _ h1]
    · subst h2
      rw [Q, L _ _ _ h1, L _ _ _ h1, G _ _ _ h1, Q]
    · have h3 : k1 < k2 := by omega
      rw [G _ _ _ h2, L _ _ _ h1, L _ _ _ h1, G _ _ _ h3, G _ _ _ h2]
    · subst h1
      rw [L _ _ _ h2, Q, G _ _ _ h2, Q, L _ _ _ h2]
    · subst h1
      subst h2
      rw [Q, Q, Q, Q, with_rc]
    · subst h1
      rw [G _ _ _ h2, Q, Q, G _ _ _ h2]
    · have h3 : k2 < k1 := by omega
      rw [L _ _ _ h2, G _ _ _ h1, L _ _ _ h2, G _ _ _ h3, G _ _ _ h1]
    · subst h2
      rw [Q, G _ _ _ h1, G _ _ _ h1, Q]
    · rw [G _ _ _ h2, G _ _ _ h1, G _ _ _ h1, G _ _ _ h2, ih]
def Sorted (t : Tier) : Prop := t.Pairwise (fun x y => x.1 < y.1)
theorem put_keys (k : Nat) (b : Bucket) : ∀ (t : Tier) (x : Nat × Bucket), x ∈ put k b t → x.1 = k ∨ ∃ y ∈ t, y.1 = x.1
  | [], x, h => by
    have e : x = (k, b) := List.mem_singleton.mp h
    exact .inl (by rw [e])
  | (yk, yb) :: l, x, h => by
    have h' : x ∈ (if k < yk then (k, b) :: (yk, yb) :: l else if k = yk then (k, yb.with_ b) :: l else (yk, yb) :: put k b l) := h
    by_cases h1 : k < yk
    · rw [if_pos h1] at h'
      rcases List.mem_cons.mp h' with e | e
      · exact .inl (by rw [e])
      · exact .inr ⟨x, e, rfl⟩
    · rw [if_neg h1] at h'
      by_cases h2 : k = yk
      · rw [if_pos h2] at h'
        rcases List.mem_cons.mp h' with e | e
        · exact .inl (by rw [e])
        · exact .inr ⟨x, List.mem_cons_of_mem _ e, rfl⟩
      · rw [if_neg h2] at h'
        rcases List.mem_cons.mp h' with e | e
        · exact .inr ⟨x, by rw [e]; exact List.mem_cons_self, rfl⟩
        · rcases put_keys k b l x e with e | ⟨y, hy, ey⟩
          · exact .inl e
          · exact .inr ⟨y, List.mem_cons_of_mem _ hy, ey⟩
theorem put_sorted (k : Nat) (b : Bucket) : ∀ {t : Tier}, Sorted t → Sorted (put k b t)
  | [], _ => List.pairwise_cons.mpr ⟨fun _ h => (by cases h), List.Pairwise.nil⟩
  | (yk, yb) :: l, h => by
    obtain ⟨h1, h2⟩ := List.pairwise_cons.mp h
    show Sorted (if k < yk then (k, b) :: (yk, yb) :: l else if k = yk then (k, yb.with_ b) :: l else (yk, yb) :: put k b l)
    by_cases c1 : k < yk
    · rw [if_pos c1]
      refine List.pairwise_cons.mpr ⟨fun x hx => ?_, h⟩
      rcases List.mem_cons.mp hx with e | e
      · rw [e]; exact c1
      · exact Nat.lt_trans c1 (h1 x e)
    · rw [if_neg c1]
      by_cases c2 : k = yk
      · rw [if_pos c2]
        exact List.pairwise_cons.mpr ⟨fun x hx => by rw [c2]; exact h1 x hx, h2⟩
      · rw [if_neg c2]
        refine List.pairwise_cons.mpr ⟨fun x hx => ?_, put_sorted k b h2⟩
        rcases put_keys k b l x hx with e | ⟨y, hy, ey⟩
        · rw [e]; show yk < k; omega
        · rw [← ey]; exact h1 y hy
theorem ups_new {k : Nat} {b : Bucket} : ∀ {l : D}, (∀ x ∈ l, x.1 ≠ k) → ups k b l = l ++ [(k, b)]
  | [], _ => rfl
  | x :: l, h => by
    show (if x.1 = k then (k, x.2.with_ b) :: l else x :: ups k b l) = x :: (l ++ [(k, b)])
    rw [if_neg (h x List.mem_cons_self), ups_new fun y hy => h y (List.mem_cons_of_mem _ hy)]
theorem ups_keys (k : Nat) (b : Bucket) : ∀ (l : D) (x : Nat × Bucket), x ∈ ups k b l → x.1 = k ∨ ∃ y ∈ l, y.1 = x.1
  | [], x, h => .inl (by rw [List.mem_singleton.mp (show x ∈ [(k, b)] from h)])
  | y :: l, x, h => by
    have h' : x ∈ (if y.1 = k then (k, y.2.with_ b) :: l else y :: ups k b l) := h
    by_cases c : y.1 = k
    · rw [if_pos c] at h'
      rcases List.mem_cons.mp h' with e | e
      · exact .inl (by rw [e])
      · exact .inr ⟨x, List.mem_cons_of_mem _ e, rfl⟩
    · rw [if_neg c] at h'
      rcases List.mem_cons.mp h' with e | e
      · exact .inr ⟨y, List.mem_cons_self, by rw [e]⟩
      · rcases ups_keys k b l x e with e | ⟨z, hz, ez⟩
        · exact .inl e
        · exact .inr ⟨z, List.mem_cons_of_mem _ hz, ez⟩
def ND (l : D) : Prop := l.Pairwise (fun x y => x.1 ≠ y.1)
theorem ND.perm {l l' : D} (h : ND l) (p : l.Perm l') : ND l' := List.Pairwise.perm h p fun h e => h e.symm
theorem ups_nd (k : Nat) (b : Bucket) : ∀ {l : D}, ND l → ND (ups k b l)
  | [], _ => List.pairwise_cons.mpr ⟨fun _ h => (by cases h), List.Pairwise.nil⟩
  | y :: l, h => by
    obtain ⟨h1, h2⟩ := List.pairwise_cons.mp h
    show ND (if y.1 = k then (k, y.2.with_ b) :: l else y :: ups k b l)
    by_cases c : y.1 = k
    · rw [if_pos c]
      exact List.pairwise_cons.mpr ⟨fun x hx => by have q := h1 x hx; rw [c] at q; exact q, h2⟩
    · rw [if_neg c]
      refine List.pairwise_cons.mpr ⟨fun x hx => ?_, ups_nd k b h2⟩
      rcases ups_keys k b l x hx with e | ⟨z, hz, ez⟩
      · rw [e]; exact c
      · rw [← ez]; exact h1 z hz
theorem ups_perm (k : Nat) (b : Bucket) {l l' : D} (p : l.Perm l') : ND l → (ups k b l).Perm (ups k b l') := by
  induction p with
  | nil => exact fun _ => List.Perm.refl _
  | cons x p ih =>
    intro h
    rename_i l1 l2
    obtain ⟨h1, h2⟩ := List.pairwise_cons.mp h
    show (if x.1 = k then (k, x.2.with_ b) :: l1 else x :: ups k b l1).Perm (if x.1 = k then (k, x.2.with_ b) :: l2 else x :: ups k b l2)
    by_cases c : x.1 = k
    · rw [if_pos c, if_pos c]; exact p.cons _
    · rw [if_neg c, if_neg c]; exact (ih h2).cons _
  | swap x y l =>
    intro h
    obtain ⟨h1, h2⟩ := List.pairwise_cons.mp h
    have nxy : y.1 ≠ x.1 := h1 x List.mem_cons_self
    show (if y.1 = k then (k, y.2.with_ b) :: x :: l else y :: (if x.1 = k then (k, x.2.with_ b) :: l else x :: ups k b l)).Perm (if x.1 = k then (k, x.2.with_ b) :: y :: l else x :: (if y.1 = k then (k, y.2.with_ b) :: l else y :: ups k b l))
    by_cases c : y.1 = k
    · have c2 : ¬ x.1 = k := fun e => nxy (c.trans e.symm)
      rw [if_pos c, if_neg c2, if_pos c]; exact List.Perm.swap _ _ _
    · rw [if_neg c, if_neg c]
      by_cases c2 : x.1 = k
      · rw [if_pos c2, if_pos c2]; exact List.Perm.swap _ _ _
      · rw [if_neg c2, if_neg c2]; exact List.Perm.swap _ _ _
  | trans p1 p2 ih1 ih2 => exact fun h => (ih1 h).trans (ih2 (h.perm p1))
/-- where a tier's stretches begin -/
def at_ (w : Nat) (x : Nat × Bucket) : Nat × Bucket := (x.1 * w, x.2)
theorem sorted_nd {w : Nat} (hw : 0 < w) {t : Tier} (h : Sorted t) : ND (t.map (at_ w)) := by
  have f : ∀ {x y : Nat × Bucket}, x.1 < y.1 → (at_ w x).1 ≠ (at_ w y).1 := fun {x y} q => Nat.ne_of_lt (Nat.mul_lt_mul_of_lt_of_le q (Nat.le_refl _) hw)
  exact List.pairwise_map.mpr (List.Pairwise.imp f h)
theorem ups_put {w : Nat} (hw : 0 < w) (q : Nat) (b : Bucket) : ∀ {t : Tier}, Sorted t → (ups (q * w) b (t.map (at_ w))).Perm ((put q b t).map (at_ w))
  | [], _ => List.Perm.refl _
  | (yk, yb) :: l, h => by
    obtain ⟨h1, h2⟩ := List.pairwise_cons.mp h
    have E : put q b ((yk, yb) :: l) = if q < yk then (q, b) :: (yk, yb) :: l else if q = yk then (q, yb.with_ b) :: l else (yk, yb) :: put q b l := rfl
    have inj : ∀ {i : Nat}, i * w = q * w → i = q := fun e => Nat.eq_of_mul_eq_mul_right hw e
    by_cases c1 : q < yk
    · rw [E, if_pos c1]
      have n : ∀ x ∈ ((yk, yb) :: l).map (at_ w), x.1 ≠ q * w := fun x hx e => by
        obtain ⟨y, hy, rfl⟩ := List.mem_map.mp hx
        have e' : y.1 = q := inj e
        rcases List.mem_cons.mp hy with z | z
        · rw [z] at e'; simp at e'; omega
        · have := h1 y z; simp at this; omega
      rw [ups_new n]
      exact List.perm_append_singleton _ _
    · rw [E, if_neg c1]
      by_cases c2 : q = yk
      · subst c2
        rw [if_pos rfl]
        show (if q * w = q * w then (q * w, yb.with_ b) :: l.map (at_ w) else _).Perm _
        rw [if_pos rfl]
        exact List.Perm.refl _
      · rw [if_neg c2]
        show (if yk * w = q * w then _ else (yk * w, yb) :: ups (q * w) b (l.map (at_ w))).Perm _
        rw [if_neg fun e => c2 (inj e).symm]
        exact (ups_put hw q b h2).cons _
/-- the program's dict and the specification's tier -/
structure R (w : Nat) (p : D) (t : Tier) : Prop where
  perm : p.Perm (t.map (at_ w))
  sorted : Sorted t
theorem R.nd {w : Nat} (hw : 0 < w) {p : D} {t : Tier} (h : R w p t) : ND p := (sorted_nd hw h.sorted).perm h.perm.symm
theorem R.ups {w : Nat} (hw : 0 < w) {p : D} {t : Tier} (h : R w p t) (q : Nat) (b : Bucket) : R w (ups (q * w) b p) (put q b t) :=
  ⟨(ups_perm _ b h.perm (h.nd hw)).trans (ups_put hw q b h.sorted), put_sorted q b h.sorted⟩
def upsAll (w : Nat) (l : D) (co : D) : D := l.foldl (fun c x => Ck.ups (x.1 / w * w) x.2 c) co
def putAll (w : Nat) (l : D) (t : Tier) : Tier := l.foldl (fun c x => put (x.1 / w) x.2 c) t
theorem R.all {w : Nat} (hw : 0 < w) : ∀ (l : D) {p : D} {t : Tier}, R w p t → R w (upsAll w l p) (putAll w l t)
  | [], _, _, h => h
  | x :: l, _, _, h => R.all hw l (h.ups hw (x.1 / w) x.2)
theorem putAll_perm {w : Nat} {l l' : D} (p : l.Perm l') (t : Tier) : putAll w l t = putAll w l' t :=
  p.foldl_eq' (fun _ _ _ _ z => put_comm _ _ _ _ z) t
/-- what a call of put_into_stretches leaves -/
def stay (e : Nat) (l : D) : D := l.filter fun x => decide (e ≤ x.1)
def gone (e : Nat) (l : D) : D := l.filter fun x => decide (x.1 < e)
def into (w e : Nat) (fin co : D) : D := upsAll w (gone e fin) co
theorem R.stay {w : Nat} {p : D} {t : Tier} (h : R w p t) (e : Nat) : R w (Ck.stay e p) (t.filter fun x => decide (e ≤ x.1 * w)) := by
  refine ⟨?_, List.Pairwise.filter _ h.sorted⟩
  have q := h.perm.filter (fun x : Nat × Bucket => decide (e ≤ x.1))
  rw [List.filter_map] at q
  exact q
theorem foldl_map' {α β γ : Type} (f : γ → β → γ) (g : α → β) : ∀ (l : List α) (z : γ), (l.map g).foldl f z = l.foldl (fun c x => f c (g x)) z
  | [], _ => rfl
  | _ :: l, _ => foldl_map' f g l _
theorem R.into {α : Type} {w e : Nat} (hw : 0 < w) {fin co : D} {t : Tier} {src : List α} (g : α → Nat × Bucket) (hs : fin.Perm (src.map g)) (h : R w co t) :
    R w (Ck.into w e fin co) ((src.filter fun x => decide ((g x).1 < e)).foldl (fun t x => put ((g x).1 / w) (g x).2 t) t) := by
  have q : (gone e fin).Perm _ := hs.filter (fun x : Nat × Bucket => decide (x.1 < e))
  rw [List.filter_map] at q
  have r := R.all hw (gone e fin) h
  rw [putAll_perm q t] at r
  unfold putAll at r
  rw [foldl_map'] at r
  exact r
theorem ups_len (k : Nat) (b : Bucket) : ∀ l : D, (ups k b l).length ≤ l.length + 1
  | [] => Nat.le_refl _
  | x :: l => by
    show (if x.1 = k then (k, x.2.with_ b) :: l else x :: ups k b l).length ≤ l.length + 2
    have := ups_len k b l
    split <;> simp <;> omega
theorem upsAll_len (w : Nat) : ∀ (l co : D), (upsAll w l co).length ≤ l.length + co.length
  | [], co => by show co.length ≤ _; simp
  | x :: l, co => by
    have h := upsAll_len w l (ups (x.1 / w * w) x.2 co)
    have q := ups_len (x.1 / w * w) x.2 co
    show (upsAll w l (ups (x.1 / w * w) x.2 co)).length ≤ _
    simp only [List.length_cons]; omega
theorem part_len (e : Nat) : ∀ l : D, (gone e l).length + (stay e l).length = l.length
  | [] => rfl
  | x :: l => by
    have h := part_len e l
    unfold gone stay at h ⊢
    by_cases c : x.1 < e
    · rw [List.filter_cons_of_pos (by simpa using c), List.filter_cons_of_neg (by simpa using c)]; simp only [List.length_cons]; omega
    · rw [List.filter_cons_of_neg (by simpa using c), List.filter_cons_of_pos (by simpa using Nat.le_of_not_lt c)]; simp only [List.length_cons]; omega
theorem into_len (w e : Nat) (fin co : D) : (into w e fin co).length + (stay e fin).length ≤ fin.length + co.length := by
  have h := upsAll_len w (gone e fin) co
  have q := part_len e fin
  unfold into
  omega
/-! ### a bucket's numbers -/
structure OkB (b : Bucket) : Prop where
  n1 : 1 ≤ b.n
  lm : b.least ≤ b.most
  lo : (b.n - 1) * b.least + b.most ≤ b.sum
  hi : b.sum ≤ (b.n - 1) * b.most + b.least
  fl : b.first ≤ b.last
theorem ok_one (x : Sample) : OkB (one x) := ⟨Nat.le_refl _, Nat.le_refl _, by show (1 - 1) * x.2 + x.2 ≤ x.2; omega, by show x.2 ≤ (1 - 1) * x.2 + x.2; omega, Nat.le_refl _⟩
theorem mul_split (n m k : Nat) (hn : 1 ≤ n) (hm : 1 ≤ m) : (n + m - 1) * k = (n - 1) * k + (m - 1) * k + k := by
  have e : n + m - 1 = (n - 1) + (m - 1) + 1 := by omega
  rw [e, Nat.add_mul, Nat.add_mul, Nat.one_mul]
theorem ok_with {a b : Bucket} (ha : OkB a) (hb : OkB b) : OkB (a.with_ b) := by
  obtain ⟨a1, a2, a3, a4, a5⟩ := ha
  obtain ⟨b1, b2, b3, b4, b5⟩ := hb
  have p1 : (a.n - 1) * min a.least b.least ≤ (a.n - 1) * a.least := Nat.mul_le_mul_left _ (Nat.min_le_left _ _)
  have p2 : (b.n - 1) * min a.least b.least ≤ (b.n - 1) * b.least := Nat.mul_le_mul_left _ (Nat.min_le_right _ _)
  have p3 : (a.n - 1) * a.most ≤ (a.n - 1) * max a.most b.most := Nat.mul_le_mul_left _ (Nat.le_max_left _ _)
  have p4 : (b.n - 1) * b.most ≤ (b.n - 1) * max a.most b.most := Nat.mul_le_mul_left _ (Nat.le_max_right _ _)
  refine ⟨by show 1 ≤ a.n + b.n; omega, by show min a.least b.least ≤ max a.most b.most; omega, ?_, ?_, by show min a.first b.first ≤ max a.last b.last; omega⟩
  · show (a.n + b.n - 1) * min a.least b.least + max a.most b.most ≤ a.sum + b.sum
    rw [mul_split _ _ _ a1 b1]
    omega
  · show a.sum + b.sum ≤ (a.n + b.n - 1) * max a.most b.most + min a.least b.least
    rw [mul_split _ _ _ a1 b1]
    omega
def OkT (t : List (Nat × Bucket)) : Prop := ∀ x ∈ t, OkB x.2
theorem ok_put {k : Nat} {b : Bucket} (hb : OkB b) : ∀ {t : Tier}, OkT t → OkT (put k b t)
  | [], _, x, hx => by
    have e : x = (k, b) := List.mem_singleton.mp hx
    rw [e]; exact hb
  | (yk, yb) :: l, h, x, hx => by
    have hx' : x ∈ (if k < yk then (k, b) :: (yk, yb) :: l else if k = yk then (k, yb.with_ b) :: l else (yk, yb) :: put k b l) := hx
    by_cases h1 : k < yk
    · rw [if_pos h1] at hx'
      rcases List.mem_cons.mp hx' with e | e
      · rw [e]; exact hb
      · exact h x e
    · rw [if_neg h1] at hx'
      by_cases h2 : k = yk
      · rw [if_pos h2] at hx'
        rcases List.mem_cons.mp hx' with e | e
        · rw [e]; exact ok_with (h _ List.mem_cons_self) hb
        · exact h x (List.mem_cons_of_mem _ e)
      · rw [if_neg h2] at hx'
        rcases List.mem_cons.mp hx' with e | e
        · rw [e]; exact h _ List.mem_cons_self
        · exact ok_put hb (fun y hy => h y (List.mem_cons_of_mem _ hy)) x e
theorem ok_fold {α : Type} (g : α → Nat) (f : α → Bucket) : ∀ (l : List α) {t : Tier}, (∀ x ∈ l, OkB (f x)) → OkT t → OkT (l.foldl (fun t x => put (g x) (f x) t) t)
  | [], _, _, h => h
  | x :: l, _, hl, h => ok_fold g f l (fun y hy => hl y (List.mem_cons_of_mem _ hy)) (ok_put (hl x List.mem_cons_self) h)
/-! ### the house -/
def smp (x : Sample) : Nat × Bucket := (x.1, one x)
structure Good (h : House) (s b l : D) : Prop where
  raw : s.Perm (h.raw.map smp)
  rawS : h.raw.Pairwise (fun x y => x.1 < y.1)
  sm : R h.width b h.small
  lg : R h.wide l h.large
  okS : OkT h.small
  okL : OkT h.large
  w0 : 0 < h.width
  w1 : h.width ≤ 1000000
  v0 : 0 < h.wide
  v1 : h.wide ≤ 1000000
theorem good_fresh : Good fresh [] [] [] :=
  ⟨List.Perm.refl _, List.Pairwise.nil, ⟨List.Perm.refl _, List.Pairwise.nil⟩, ⟨List.Perm.refl _, List.Pairwise.nil⟩, fun x hx => (by cases hx), fun x hx => (by cases hx), by decide, by decide, by decide, by decide⟩
theorem good_aged {h : House} {s b l : D} (G : Good h s b l) (now : Nat) :
    Good (h.aged now) (stay (h.aged now).edge0 s) (stay (h.aged now).edge1 (into h.width (h.aged now).edge0 s b)) (stay (h.aged now).edge2 (into h.wide (h.aged now).edge1 (into h.width (h.aged now).edge0 s b) l)) := by
  have e1 : R h.width (into h.width (h.aged now).edge0 s b) _ := R.into (e := (h.aged now).edge0) G.w0 smp G.raw G.sm
  have e2 : R h.wide (into h.wide (h.aged now).edge1 (into h.width (h.aged now).edge0 s b) l) _ := R.into (e := (h.aged now).edge1) G.v0 (at_ h.width) e1.perm G.lg
  have o1 : OkT ((h.raw.filter fun x => decide (x.1 < (h.aged now).edge0)).foldl (fun (t : Tier) x => put (x.1 / h.width) (one x) t) h.small) := ok_fold _ _ _ (fun x _ => ok_one x) G.okS
  refine ⟨?_, List.Pairwise.filter _ G.rawS, e1.stay _, e2.stay _, ?_, ?_, G.w0, G.w1, G.v0, G.v1⟩
  · have q := G.raw.filter (fun x : Nat × Bucket => decide ((h.aged now).edge0 ≤ x.1))
    rw [List.filter_map] at q
    exact q
  · intro x hx
    exact o1 x (List.mem_filter.mp hx).1
  · intro x hx
    refine ok_fold (fun x : Nat × Bucket => x.1 * h.width / h.wide) (fun x => x.2) _ (fun y hy => ?_) G.okL x (List.mem_filter.mp hx).1
    exact o1 y (List.mem_filter.mp hy).1
theorem len_aged (w v e0 e1 e2 : Nat) (s b l : D) : (stay e0 s).length + (stay e1 (into w e0 s b)).length + (stay e2 (into v e1 (into w e0 s b) l)).length ≤ s.length + b.length + l.length := by
  have h1 := into_len w e0 s b
  have h2 := into_len v e1 (into w e0 s b) l
  have h3 := part_len e2 (into v e1 (into w e0 s b) l)
  omega
theorem R.len {w : Nat} {p : D} {t : Tier} (h : R w p t) : p.length = t.length := by rw [h.perm.length_eq, List.length_map]
theorem Good.len {h : House} {s b l : D} (G : Good h s b l) : s.length = h.raw.length := by rw [G.raw.length_eq, List.length_map]
/-! look-ups -/
def look (k : Nat) : D → Option Bucket
  | [] => none
  | x :: l => if x.1 = k then some x.2 else look k l
theorem look_none {k : Nat} : ∀ {l : D}, (∀ x ∈ l, x.1 ≠ k) → look k l = none
  | [], _ => rfl
  | x :: l, h => by
    show (if x.1 = k then some x.2 else look k l) = none
    rw [if_neg (h x List.mem_cons_self)]
    exact look_none fun y hy => h y (List.mem_cons_of_mem _ hy)
theorem look_mem {k : Nat} {b : Bucket} : ∀ {l : D}, ND l → (k, b) ∈ l → look k l = some b
  | x :: l, h, hm => by
    obtain ⟨h1, h2⟩ := List.pairwise_cons.mp h
    show (if x.1 = k then some x.2 else look k l) = some b
    rcases List.mem_cons.mp hm with e | e
    · rw [← e, if_pos rfl]
    · rw [if_neg (h1 _ e)]
      exact look_mem h2 e
theorem raw_nd {l : List Sample} (h : l.Pairwise (fun x y => x.1 < y.1)) : ND (l.map smp) :=
  List.pairwise_map.mpr (List.Pairwise.imp (fun {_ _} q => Nat.ne_of_lt q) h)
theorem Good.look {h : House} {s b l : D} (G : Good h s b l) (t : Nat) : Ck.look t s = (h.raw.find? fun x => x.1 == t).map one := by
  cases e : h.raw.find? fun x => x.1 == t with
  | none =>
    refine look_none fun x hx ex => ?_
    obtain ⟨y, hy, rfl⟩ := List.mem_map.mp (G.raw.mem_iff.mp hx)
    have := List.find?_eq_none.mp e y hy
    exact this (by simpa [smp] using ex)
  | some x =>
    have hx : x ∈ h.raw := List.mem_of_find?_eq_some e
    have ht : x.1 = t := by have := List.find?_some e; simpa using this
    refine look_mem ((raw_nd G.rawS).perm G.raw.symm) (G.raw.mem_iff.mpr (List.mem_map.mpr ⟨x, hx, ?_⟩))
    show (x.1, one x) = (t, one x)
    rw [ht]
theorem enter_perm {x : Sample} : ∀ {l : List Sample}, (∀ y ∈ l, y.1 ≠ x.1) → (enter x l).Perm (l ++ [x])
  | [], _ => List.Perm.refl _
  | y :: l, h => by
    show (if x.1 < y.1 then x :: y :: l else if x.1 = y.1 then x :: l else y :: enter x l).Perm (y :: (l ++ [x]))
    by_cases c1 : x.1 < y.1
    · rw [if_pos c1]
      exact (List.perm_append_singleton x (y :: l)).symm
    · rw [if_neg c1, if_neg fun e => h y List.mem_cons_self e.symm]
      exact (enter_perm fun z hz => h z (List.mem_cons_of_mem _ hz)).cons _
theorem enter_sorted {x : Sample} : ∀ {l : List Sample}, l.Pairwise (fun x y => x.1 < y.1) → (∀ y ∈ l, y.1 ≠ x.1) → (enter x l).Pairwise (fun x y => x.1 < y.1)
  | [], _, _ => List.pairwise_cons.mpr ⟨fun _ h => (by cases h), List.Pairwise.nil⟩
  | y :: l, h, hn => by
    obtain ⟨h1, h2⟩ := List.pairwise_cons.mp h
    show (if x.1 < y.1 then x :: y :: l else if x.1 = y.1 then x :: l else y :: enter x l).Pairwise _
    by_cases c1 : x.1 < y.1
    · rw [if_pos c1]
      refine List.pairwise_cons.mpr ⟨fun z hz => ?_, h⟩
      rcases List.mem_cons.mp hz with e | e
      · rw [e]; exact c1
      · exact Nat.lt_trans c1 (h1 z e)
    · have ne := hn y List.mem_cons_self
      rw [if_neg c1, if_neg fun e => ne e.symm]
      have hn' : ∀ z ∈ l, z.1 ≠ x.1 := fun z hz => hn z (List.mem_cons_of_mem _ hz)
      refine List.pairwise_cons.mpr ⟨fun z hz => ?_, enter_sorted h2 hn'⟩
      rcases List.mem_append.mp ((enter_perm hn').mem_iff.mp hz) with e | e
      · exact h1 z e
      · rw [List.mem_singleton.mp e]; omega
theorem good_sample {h : House} {s b l : D} (G : Good h s b l) {t v : Nat} (e : h.raw.find? (fun x => x.1 == t) = none) : Good { h with raw := enter (t, v) h.raw } (s ++ [(t, one (t, v))]) b l := by
  have n : ∀ y ∈ h.raw, y.1 ≠ ((t, v) : Sample).1 := fun y hy ey => List.find?_eq_none.mp e y hy (by simpa using ey)
  refine ⟨?_, enter_sorted G.rawS n, G.sm, G.lg, G.okS, G.okL, G.w0, G.w1, G.v0, G.v1⟩
  have q := ((enter_perm n).map smp).symm
  rw [List.map_append] at q
  exact (G.raw.append_right _).trans q
/-! how many -/
def kept (s b l : D) : List Bucket := l.map (·.2) ++ b.map (·.2) ++ s.map (·.2)
theorem R.buckets {w : Nat} {p : D} {t : Tier} (h : R w p t) : (p.map (·.2)).Perm (t.map (·.2)) := by
  have q := h.perm.map (·.2)
  rw [List.map_map] at q
  exact q
theorem Good.all {h : House} {s b l : D} (G : Good h s b l) : (kept s b l).Perm h.all := by
  have q := G.raw.map (·.2)
  rw [List.map_map] at q
  unfold kept House.all
  rw [List.append_assoc]
  exact G.lg.buckets.append (G.sm.buckets.append q)
theorem Good.ok {h : House} {s b l : D} (G : Good h s b l) : ∀ x ∈ kept s b l, OkB x := by
  intro x hx
  have hx := G.all.mem_iff.mp hx
  unfold House.all at hx
  rcases List.mem_append.mp hx with e | e
  · obtain ⟨y, hy, rfl⟩ := List.mem_map.mp e
    exact G.okL y hy
  · rcases List.mem_append.mp e with e | e
    · obtain ⟨y, hy, rfl⟩ := List.mem_map.mp e
      exact G.okS y hy
    · obtain ⟨y, hy, rfl⟩ := List.mem_map.mp e
      exact ok_one y
def tally (f : Bucket → Nat × Nat) (l : List Bucket) : Nat × Nat := l.foldl (fun m b => plus m (f b)) (0, 0)
theorem tally_perm {f : Bucket → Nat × Nat} {l l' : List Bucket} (p : l.Perm l') : tally f l = tally f l' :=
  p.foldl_eq' (fun x _ y _ z => by unfold plus; simp only [Prod.mk.injEq]; omega) _
theorem tally_more {f : Bucket → Nat × Nat} (l : List Bucket) (b : Bucket) : tally f (l ++ [b]) = plus (tally f l) (f b) := by
  unfold tally
  rw [List.foldl_append]
  rfl
theorem Good.count {h : House} {s b l : D} (G : Good h s b l) (a c : Nat) : h.count a c = tally (fun x => counts x a c) (kept s b l) := (tally_perm G.all).symm
/-! one entry more -/
theorem take_more {α : Type} : ∀ {l : List α} {i : Nat} {x : α}, l[i]? = some x → l.take (i + 1) = l.take i ++ [x]
  | [], i, x, h => by simp at h
  | a :: l, 0, x, h => by
    have e : a = x := Option.some.inj h
    subst e
    rfl
  | a :: l, i + 1, x, h => congrArg (List.cons a) (take_more (l := l) (i := i) (x := x) h)
theorem into_gone {w e : Nat} {l co : D} {x : Nat × Bucket} (h : x.1 < e) : into w e (l ++ [x]) co = ups (x.1 / w * w) x.2 (into w e l co) := by
  unfold into upsAll gone
  rw [List.filter_append, List.filter_cons_of_pos (by simpa using h), List.foldl_append]
  rfl
theorem into_stay {w e : Nat} {l co : D} {x : Nat × Bucket} (h : e ≤ x.1) : into w e (l ++ [x]) co = into w e l co := by
  unfold into gone
  rw [List.filter_append, List.filter_cons_of_neg (by simpa using h)]
  simp
theorem stay_stay {e : Nat} {l : D} {x : Nat × Bucket} (h : e ≤ x.1) : stay e (l ++ [x]) = stay e l ++ [x] := by
  unfold stay
  rw [List.filter_append, List.filter_cons_of_pos (by simpa using h)]
  rfl
theorem stay_gone {e : Nat} {l : D} {x : Nat × Bucket} (h : x.1 < e) : stay e (l ++ [x]) = stay e l := by
  unfold stay
  rw [List.filter_append, List.filter_cons_of_neg (by simpa using h)]
  simp
theorem nd_upsAll (w : Nat) : ∀ (l : D) {co : D}, ND co → ND (upsAll w l co)
  | [], _, h => h
  | x :: l, _, h => nd_upsAll w l (ups_nd _ _ h)
theorem nd_into (w e : Nat) (l : D) {co : D} (h : ND co) : ND (into w e l co) := nd_upsAll w _ h
theorem nd_stay (e : Nat) {l : D} (h : ND l) : ND (stay e l) := List.Pairwise.filter _ h
theorem nd_take {l : D} (h : ND l) (i : Nat) : ND (l.take i) := List.Pairwise.sublist (List.take_sublist i l) h
theorem nd_new {l : D} {i : Nat} {x : Nat × Bucket} (h : ND l) (hx : l[i]? = some x) : look x.1 (l.take i) = none := by
  have q := nd_take h (i + 1)
  rw [take_more hx] at q
  exact look_none fun y hy => (List.pairwise_append.mp q).2.2 y hy x List.mem_cons_self
theorem look_stay {e k : Nat} {l : D} (h : look k l = none) (ha : ∀ x ∈ l, x.1 ≠ k) : look k (stay e l) = none := look_none fun x hx => ha x (List.mem_filter.mp hx).1
theorem nd_new_stay {l : D} {i e : Nat} {x : Nat × Bucket} (h : ND l) (hx : l[i]? = some x) : look x.1 (stay e (l.take i)) = none := by
  have q := nd_take h (i + 1)
  rw [take_more hx] at q
  exact look_none fun y hy => (List.pairwise_append.mp q).2.2 y (List.mem_filter.mp hy).1 x List.mem_cons_self
theorem into_take_len (w e : Nat) (l co : D) (i : Nat) : (into w e (l.take i) co).length ≤ l.length + co.length := by
  have h := into_len w e (l.take i) co
  rw [List.length_take] at h
  omega
theorem stay_take_len (e : Nat) (l : D) (i : Nat) : (stay e (l.take i)).length ≤ l.length := by
  have h := part_len e (l.take i)
  rw [List.length_take] at h
  omega
end Ck

set_option linter.all false
set_option maxRecDepth 100000
/-! Buckets span at least as many times as they have samples; so the bounds of a sum are at the ends. -/
namespace Ck
open Sq38
structure Span (b : Bucket) : Prop where
  fl : b.first ≤ b.last
  n : b.n ≤ b.last - b.first + 1
theorem span_one (x : Sample) : Span (one x) := ⟨Nat.le_refl _, by show 1 ≤ x.1 - x.1 + 1; omega⟩
theorem span_with {a b : Bucket} (ha : Span a) (hb : Span b) (h : a.last < b.first) : Span (a.with_ b) := by
  obtain ⟨a1, a2⟩ := ha
  obtain ⟨b1, b2⟩ := hb
  refine ⟨by show min a.first b.first ≤ max a.last b.last; omega, ?_⟩
  show a.n + b.n ≤ max a.last b.last - min a.first b.first + 1
  omega
theorem put_mem {k : Nat} {b : Bucket} : ∀ {t : Tier} {y : Nat × Bucket}, y ∈ put k b t → y = (k, b) ∨ y ∈ t ∨ ∃ z ∈ t, z.1 = k ∧ y = (k, z.2.with_ b)
  | [], y, h => .inl (List.mem_singleton.mp h)
  | (yk, yb) :: l, y, h => by
    have h' : y ∈ (if k < yk then (k, b) :: (yk, yb) :: l else if k = yk then (k, yb.with_ b) :: l else (yk, yb) :: put k b l) := h
    by_cases h1 : k < yk
    · rw [if_pos h1] at h'
      rcases List.mem_cons.mp h' with e | e
      · exact .inl e
      · exact .inr (.inl e)
    · rw [if_neg h1] at h'
      by_cases h2 : k = yk
      · rw [if_pos h2] at h'
        rcases List.mem_cons.mp h' with e | e
        · exact .inr (.inr ⟨(yk, yb), List.mem_cons_self, h2.symm, e⟩)
        · exact .inr (.inl (List.mem_cons_of_mem _ e))
      · rw [if_neg h2] at h'
        rcases List.mem_cons.mp h' with e | e
        · exact .inr (.inl (by rw [e]; exact List.mem_cons_self))
        · rcases put_mem e with e | e | ⟨z, hz, e1, e2⟩
          · exact .inl e
          · exact .inr (.inl (List.mem_cons_of_mem _ e))
          · exact .inr (.inr ⟨z, List.mem_cons_of_mem _ hz, e1, e2⟩)
/-- samples into buckets, one behind another in time -/
structure SmP (w lo m : Nat) (x : Nat × Bucket) : Prop where
  a : x.1 * w ≤ x.2.first
  c : x.2.last < (x.1 + 1) * w
  lo : lo ≤ x.2.first
  m : x.2.last < m
  s : Span x.2
theorem SmP.mono {w lo m m' : Nat} {x : Nat × Bucket} (h : SmP w lo m x) (hm : m ≤ m') : SmP w lo m' x := ⟨h.a, h.c, h.lo, Nat.lt_of_lt_of_le h.m hm, h.s⟩
theorem div_lo (t w : Nat) : t / w * w ≤ t := Nat.div_mul_le_self t w
theorem div_hi {t w : Nat} (hw : 0 < w) : t < (t / w + 1) * w := by
  have h := Nat.div_add_mod t w
  have h2 := Nat.mod_lt t hw
  rw [Nat.add_mul, Nat.one_mul, Nat.mul_comm]
  omega
theorem sm_step {w lo m : Nat} (hw : 0 < w) {t : Tier} (h : ∀ x ∈ t, SmP w lo m x) {x : Sample} (hm : m ≤ x.1) (hl : lo ≤ x.1) : ∀ y ∈ put (x.1 / w) (one x) t, SmP w lo (x.1 + 1) y := by
  intro y hy
  have ho : SmP w lo (x.1 + 1) (x.1 / w, one x) := ⟨div_lo _ _, div_hi hw, hl, Nat.lt_succ_self _, span_one x⟩
  rcases put_mem hy with e | e | ⟨z, hz, e1, e2⟩
  · rw [e]; exact ho
  · exact (h y e).mono (by omega)
  · have p := h z hz
    rw [e2]
    have pa := p.a
    have pc := p.c
    rw [e1] at pa pc
    refine ⟨?_, ?_, ?_, ?_, span_with p.s (span_one x) (by have := p.m; show z.2.last < x.1; omega)⟩
    · show x.1 / w * w ≤ min z.2.first x.1
      have := div_lo x.1 w
      omega
    · show max z.2.last x.1 < (x.1 / w + 1) * w
      have := div_hi (t := x.1) hw
      omega
    · show lo ≤ min z.2.first x.1
      have := p.lo
      omega
    · show max z.2.last x.1 < x.1 + 1
      have := p.m
      omega
theorem sm_fold {w lo M : Nat} (hw : 0 < w) : ∀ (l : List Sample) {t : Tier} {m : Nat}, (∀ x ∈ t, SmP w lo m x) → l.Pairwise (fun x y => x.1 < y.1) → (∀ x ∈ l, m ≤ x.1 ∧ lo ≤ x.1 ∧ x.1 < M) → m ≤ M → ∀ y ∈ l.foldl (fun (t : Tier) x => put (x.1 / w) (one x) t) t, SmP w lo M y
  | [], t, m, h, _, _, hm, y, hy => (h y hy).mono hm
  | x :: l, t, m, h, hp, hx, hm, y, hy => by
    obtain ⟨p1, p2⟩ := List.pairwise_cons.mp hp
    obtain ⟨q1, q2, q3⟩ := hx x List.mem_cons_self
    refine sm_fold hw l (m := x.1 + 1) (sm_step hw h q1 q2) p2 (fun z hz => ?_) q3 y hy
    have := p1 z hz
    have := hx z (List.mem_cons_of_mem _ hz)
    omega
/-- buckets into larger ones, one behind another in time -/
structure LgP (m : Nat) (x : Nat × Bucket) : Prop where
  m : x.2.last < m
  s : Span x.2
theorem lg_step {m k : Nat} {t : Tier} (h : ∀ x ∈ t, LgP m x) {b : Bucket} (hb : Span b) (hm : m ≤ b.first) : ∀ y ∈ put k b t, LgP (b.last + 1) y := by
  intro y hy
  have fl := hb.fl
  rcases put_mem hy with e | e | ⟨z, hz, e1, e2⟩
  · rw [e]; exact ⟨Nat.lt_succ_self _, hb⟩
  · have p := h y e
    exact ⟨by have := p.m; omega, p.s⟩
  · have p := h z hz
    rw [e2]
    refine ⟨?_, span_with p.s hb (by have := p.m; omega)⟩
    show max z.2.last b.last < b.last + 1
    have := p.m
    omega
theorem lg_fold {w v M : Nat} : ∀ (l : Tier) {t : Tier} {m : Nat}, (∀ x ∈ t, LgP m x) → Sorted l → (∀ x ∈ l, m ≤ x.2.first ∧ x.1 * w ≤ x.2.first ∧ x.2.last < (x.1 + 1) * w ∧ x.2.last < M ∧ Span x.2) → m ≤ M → ∀ y ∈ l.foldl (fun (t : Tier) x => put (x.1 * w / v) x.2 t) t, LgP M y
  | [], t, m, h, _, _, hm, y, hy => ⟨Nat.lt_of_lt_of_le (h y hy).m hm, (h y hy).s⟩
  | x :: l, t, m, h, hp, hx, hm, y, hy => by
    obtain ⟨p1, p2⟩ := List.pairwise_cons.mp hp
    obtain ⟨q1, q2, q3, q4, q5⟩ := hx x List.mem_cons_self
    refine lg_fold l (m := x.2.last + 1) (lg_step h q5 q1) p2 (fun z hz => ?_) q4 y hy
    have := p1 z hz
    have hz' := hx z (List.mem_cons_of_mem _ hz)
    have mm : (x.1 + 1) * w ≤ z.1 * w := Nat.mul_le_mul_right _ this
    refine ⟨by omega, hz'.2⟩
structure Spans (h : House) : Prop where
  raw : ∀ x ∈ h.raw, h.edge0 ≤ x.1
  sm : ∀ x ∈ h.small, SmP h.width h.edge1 h.edge0 x
  lg : ∀ x ∈ h.large, LgP h.edge1 x
  dv : h.wide % h.width = 0
  e1 : h.edge1 % h.wide = 0
  e10 : h.edge1 ≤ h.edge0
  k01 : h.keep0 ≤ h.keep1
  e0b : h.edge0 ≤ 2000000
theorem spans_new (w v k0 k1 k2 : Nat) (hd : v % w = 0) (hk : k0 ≤ k1) : Spans ⟨w, v, k0, k1, k2, [], [], [], 0, 0, 0⟩ :=
  ⟨fun x hx => (by cases hx), fun x hx => (by cases hx), fun x hx => (by cases hx), hd, Nat.zero_mod _, Nat.le_refl _, hk, Nat.zero_le _⟩
theorem spans_fresh : Spans fresh := spans_new 10 60 100 600 6000 (by decide) (by decide)
theorem down_mod (w t : Nat) : down w t % w = 0 := Nat.mul_mod_left _ _
theorem down_le (w t : Nat) : down w t ≤ t := Nat.div_mul_le_self t w
theorem max_mod {a b w : Nat} (ha : a % w = 0) (hb : b % w = 0) : max a b % w = 0 := by
  rcases Nat.le_total a b with h | h
  · rw [Nat.max_eq_right h]; exact hb
  · rw [Nat.max_eq_left h]; exact ha
/-- a multiple of w that is at most t is at most where t's stretch begins -/
theorem le_down {w m t : Nat} (hw : 0 < w) (hm : m % w = 0) (h : m ≤ t) : m ≤ down w t := by
  obtain ⟨q, rfl⟩ := Nat.dvd_of_mod_eq_zero hm
  unfold down
  rw [Nat.mul_comm w q] at h ⊢
  exact Nat.mul_le_mul_right _ ((Nat.le_div_iff_mul_le hw).mpr h)
theorem mod_trans {e v w : Nat} (h1 : e % v = 0) (h2 : v % w = 0) : e % w = 0 :=
  Nat.mod_eq_zero_of_dvd (Nat.dvd_trans (Nat.dvd_of_mod_eq_zero h2) (Nat.dvd_of_mod_eq_zero h1))
theorem next_le {q w e : Nat} (h : q * w < e) (he : e % w = 0) : (q + 1) * w ≤ e := by
  obtain ⟨r, rfl⟩ := Nat.dvd_of_mod_eq_zero he
  rw [Nat.mul_comm w r] at h ⊢
  refine Nat.mul_le_mul_right _ ?_
  rcases Nat.lt_or_ge q r with c | c
  · exact c
  · have := Nat.mul_le_mul_right w c
    omega
theorem spans_aged {h : House} {s b l : D} (G : Good h s b l) (S : Spans h) (now : Nat) (hn : now ≤ 2000000) : Spans (h.aged now) := by
  have E0 : (h.aged now).edge0 = max h.edge0 (down h.width (now - h.keep0)) := rfl
  have E1 : (h.aged now).edge1 = max h.edge1 (down h.wide (now - h.keep1)) := rfl
  have le0 : h.edge0 ≤ (h.aged now).edge0 := by rw [E0]; exact Nat.le_max_left _ _
  have le1 : h.edge1 ≤ (h.aged now).edge1 := by rw [E1]; exact Nat.le_max_left _ _
  have e1v : (h.aged now).edge1 % h.wide = 0 := by rw [E1]; exact max_mod S.e1 (down_mod _ _)
  have e1w : (h.aged now).edge1 % h.width = 0 := mod_trans e1v S.dv
  have e10 : (h.aged now).edge1 ≤ (h.aged now).edge0 := by
    rw [E0, E1]
    have hd : down h.wide (now - h.keep1) ≤ down h.width (now - h.keep0) := le_down G.w0 (mod_trans (down_mod _ _) S.dv) (by have := down_le h.wide (now - h.keep1); have := S.k01; omega)
    have := S.e10
    omega
  have As : ∀ y ∈ (h.raw.filter fun x => decide (x.1 < (h.aged now).edge0)).foldl (fun (t : Tier) x => put (x.1 / h.width) (one x) t) h.small, SmP h.width h.edge1 (h.aged now).edge0 y := by
    refine sm_fold (m := h.edge0) G.w0 _ S.sm (List.Pairwise.filter _ G.rawS) (fun x hx => ?_) le0
    obtain ⟨m1, m2⟩ := List.mem_filter.mp hx
    have := S.raw x m1
    have := S.e10
    have := of_decide_eq_true m2
    omega
  have Ss : Sorted ((h.raw.filter fun x => decide (x.1 < (h.aged now).edge0)).foldl (fun (t : Tier) x => put (x.1 / h.width) (one x) t) h.small) := (R.into (e := (h.aged now).edge0) G.w0 smp G.raw G.sm).sorted
  refine ⟨fun x hx => of_decide_eq_true (List.mem_filter.mp hx).2, fun x hx => ?_, fun x hx => ?_, S.dv, e1v, e10, S.k01, ?_⟩
  · obtain ⟨m1, m2⟩ := List.mem_filter.mp hx
    have p := As x m1
    have m2 := of_decide_eq_true m2
    exact ⟨p.a, p.c, Nat.le_trans m2 p.a, p.m, p.s⟩
  · refine lg_fold (w := h.width) (v := h.wide) (m := h.edge1) (M := (h.aged now).edge1) _ S.lg (List.Pairwise.filter _ Ss) (fun y hy => ?_) le1 x (List.mem_filter.mp hx).1
    obtain ⟨m1, m2⟩ := List.mem_filter.mp hy
    have p := As y m1
    have m2 := of_decide_eq_true m2
    refine ⟨p.lo, p.a, p.c, Nat.lt_of_lt_of_le p.c (next_le m2 e1w), p.s⟩
  · rw [E0]
    have := down_le h.width (now - h.keep0)
    have := S.e0b
    omega
theorem enter_mem {x y : Sample} : ∀ {l : List Sample}, y ∈ enter x l → y = x ∨ y ∈ l
  | [], h => .inl (List.mem_singleton.mp h)
  | z :: l, h => by
    have h' : y ∈ (if x.1 < z.1 then x :: z :: l else if x.1 = z.1 then x :: l else z :: enter x l) := h
    by_cases h1 : x.1 < z.1
    · rw [if_pos h1] at h'
      rcases List.mem_cons.mp h' with e | e
      · exact .inl e
      · exact .inr e
    · rw [if_neg h1] at h'
      by_cases h2 : x.1 = z.1
      · rw [if_pos h2] at h'
        rcases List.mem_cons.mp h' with e | e
        · exact .inl e
        · exact .inr (List.mem_cons_of_mem _ e)
      · rw [if_neg h2] at h'
        rcases List.mem_cons.mp h' with e | e
        · exact .inr (by rw [e]; exact List.mem_cons_self)
        · rcases enter_mem e with e | e
          · exact .inl e
          · exact .inr (List.mem_cons_of_mem _ e)
theorem spans_sample {h : House} (S : Spans h) {t v : Nat} (ht : ¬ t < h.edge0) : Spans { h with raw := enter (t, v) h.raw } := by
  refine ⟨fun x hx => ?_, S.sm, S.lg, S.dv, S.e1, S.e10, S.k01, S.e0b⟩
  rcases enter_mem hx with e | e
  · rw [e]; show h.edge0 ≤ t; omega
  · exact S.raw x e
theorem Spans.all {h : House} (S : Spans h) : ∀ x ∈ h.all, Span x := by
  intro x hx
  unfold House.all at hx
  rcases List.mem_append.mp hx with e | e
  · obtain ⟨y, hy, rfl⟩ := List.mem_map.mp e
    exact (S.lg y hy).s
  · rcases List.mem_append.mp e with e | e
    · obtain ⟨y, hy, rfl⟩ := List.mem_map.mp e
      exact (S.sm y hy).s
    · obtain ⟨y, hy, rfl⟩ := List.mem_map.mp e
      exact span_one y
theorem Spans.few {h : House} (S : Spans h) : ∀ x ∈ h.all, x.n ≤ 2000001 := by
  intro x hx
  have eb := S.e0b
  have e10 := S.e10
  unfold House.all at hx
  rcases List.mem_append.mp hx with e | e
  · obtain ⟨y, hy, rfl⟩ := List.mem_map.mp e
    have p := S.lg y hy
    have := p.m
    have := p.s.n
    omega
  · rcases List.mem_append.mp e with e | e
    · obtain ⟨y, hy, rfl⟩ := List.mem_map.mp e
      have p := S.sm y hy
      have := p.m
      have := p.s.n
      omega
    · obtain ⟨y, hy, rfl⟩ := List.mem_map.mp e
      show 1 ≤ 2000001
      decide
/-! ### how many, in order -/
theorem inside_le' (b : Bucket) (a c : Nat) : inside b a c ≤ b.last - b.first - 1 := by
  unfold inside
  omega
theorem isIn_le (t a c : Nat) : isIn t a c ≤ 1 := by unfold isIn; split <;> omega
theorem counts_le {b : Bucket} (ok : OkB b) (sp : Span b) (a c : Nat) : (counts b a c).1 ≤ (counts b a c).2 ∧ (counts b a c).2 ≤ b.n := by
  have hi := inside_le' b a c
  have h1 := isIn_le b.first a c
  have h2 := isIn_le b.last a c
  have n1 := ok.n1
  have n2 := sp.n
  have fl := sp.fl
  unfold counts
  generalize inside b a c = i at hi ⊢
  by_cases e : b.n = 1
  · rw [if_pos e]
    exact ⟨Nat.le_refl _, by dsimp only; omega⟩
  · rw [if_neg e]
    dsimp only
    omega
/-! ### what they come to: closed forms -/
def hiF (b : Bucket) (k : Int) : Int := min (k * b.most) (b.sum - (b.n - k) * b.least)
def loF (b : Bucket) (k : Int) : Int := max (k * b.least) (b.sum - (b.n - k) * b.most)
theorem cast_sub_mul {n k x : Nat} (h : k ≤ n) : (((n - k) * x : Nat) : Int) = ((n : Int) - k) * x := by
  rw [Int.natCast_mul, Int.ofNat_sub h]
theorem sumMost_eq {b : Bucket} (ok : OkB b) {k : Nat} (hk : k ≤ b.n) : (sumMost b k : Int) = hiF b k := by
  obtain ⟨n1, lm, lo, hi, _⟩ := ok
  unfold hiF
  rw [← cast_sub_mul hk]
  unfold sumMost
  have split1 : ∀ x : Nat, (b.n - 1) * x + x = b.n * x := fun x => by
    have e : b.n = (b.n - 1) + 1 := by omega
    rw [e, Nat.add_sub_cancel, Nat.add_mul, Nat.one_mul]
  by_cases c0 : k = 0
  · subst c0
    rw [if_pos rfl]
    have := split1 b.least
    simp only [Nat.sub_zero, Int.natCast_zero, Int.zero_mul]
    omega
  · rw [if_neg c0]
    by_cases cn : b.n ≤ k
    · rw [if_pos cn]
      have e : k = b.n := by omega
      subst e
      have := split1 b.most
      rw [Nat.sub_self, Nat.zero_mul, ← Int.natCast_mul]
      omega
    · rw [if_neg cn]
      have e1 : (k - 1) * b.most + b.most = k * b.most := by
        have e : k = (k - 1) + 1 := by omega
        rw [e, Nat.add_sub_cancel, Nat.add_mul, Nat.one_mul]
      have e2 : (b.n - k - 1) * b.least + b.least = (b.n - k) * b.least := by
        have e : b.n - k = (b.n - k - 1) + 1 := by omega
        rw [e, Nat.add_sub_cancel, Nat.add_mul, Nat.one_mul]
      have e3 : (b.n - k - 1) * b.least + b.least ≤ (b.n - 1) * b.least := by
        rw [e2]
        exact Nat.mul_le_mul_right _ (by omega)
      rw [← Int.natCast_mul, ← e1, ← e2]
      omega
theorem sumLeast_eq {b : Bucket} (ok : OkB b) {k : Nat} (hk : k ≤ b.n) : (sumLeast b k : Int) = loF b k := by
  obtain ⟨n1, lm, lo, hi, _⟩ := ok
  unfold loF
  rw [← cast_sub_mul hk]
  unfold sumLeast
  have split1 : ∀ x : Nat, (b.n - 1) * x + x = b.n * x := fun x => by
    have e : b.n = (b.n - 1) + 1 := by omega
    rw [e, Nat.add_sub_cancel, Nat.add_mul, Nat.one_mul]
  by_cases c0 : k = 0
  · subst c0
    rw [if_pos rfl]
    have := split1 b.most
    simp only [Nat.sub_zero, Int.natCast_zero, Int.zero_mul]
    omega
  · rw [if_neg c0]
    by_cases cn : b.n ≤ k
    · rw [if_pos cn]
      have e : k = b.n := by omega
      subst e
      have := split1 b.least
      rw [Nat.sub_self, Nat.zero_mul, ← Int.natCast_mul]
      omega
    · rw [if_neg cn]
      have e1 : (k - 1) * b.least + b.least = k * b.least := by
        have e : k = (k - 1) + 1 := by omega
        rw [e, Nat.add_sub_cancel, Nat.add_mul, Nat.one_mul]
      have e2 : (b.n - k - 1) * b.most + b.most = (b.n - k) * b.most := by
        have e : b.n - k = (b.n - k - 1) + 1 := by omega
        rw [e, Nat.add_sub_cancel, Nat.add_mul, Nat.one_mul]
      have e4 : b.least + b.most ≤ b.sum := by
        have : 1 * b.least ≤ (b.n - 1) * b.least := Nat.mul_le_mul_right _ (by omega)
        omega
      rw [← Int.natCast_mul, ← e1, ← e2]
      omega
theorem hiF_mono {b : Bucket} (ok : OkB b) {k j : Int} (h : k ≤ j) : hiF b k ≤ hiF b j := by
  unfold hiF
  have h1 : k * (b.most : Int) ≤ j * b.most := Int.mul_le_mul_of_nonneg_right h (by omega)
  have h2 : ((b.n : Int) - j) * b.least ≤ (b.n - k) * b.least := Int.mul_le_mul_of_nonneg_right (by omega) (by omega)
  omega
theorem loF_mono {b : Bucket} (ok : OkB b) {k j : Int} (h : k ≤ j) : loF b k ≤ loF b j := by
  unfold loF
  have h1 : k * (b.least : Int) ≤ j * b.least := Int.mul_le_mul_of_nonneg_right h (by omega)
  have h2 : ((b.n : Int) - j) * b.most ≤ (b.n - k) * b.most := Int.mul_le_mul_of_nonneg_right (by omega) (by omega)
  omega
theorem min_first {f : Nat → Nat} (k d : Nat) (h : ∀ i, i ≤ d → f k ≤ f (k + i)) : ((((List.range (d + 1)).map fun i => k + i).map f).min?).getD 0 = f k := by
  have e : (((List.range (d + 1)).map fun i => k + i).map f).min? = some (f k) := by
    refine List.min?_eq_some_iff.mpr ⟨?_, ?_⟩
    · exact List.mem_map.mpr ⟨k, List.mem_map.mpr ⟨0, List.mem_range.mpr (Nat.succ_pos _), rfl⟩, rfl⟩
    · intro x hx
      obtain ⟨y, hy, rfl⟩ := List.mem_map.mp hx
      obtain ⟨i, hi, rfl⟩ := List.mem_map.mp hy
      exact h i (Nat.lt_succ_iff.mp (List.mem_range.mp hi))
  rw [e]; rfl
theorem max_last {f : Nat → Nat} (k d : Nat) (h : ∀ i, i ≤ d → f (k + i) ≤ f (k + d)) : ((((List.range (d + 1)).map fun i => k + i).map f).max?).getD 0 = f (k + d) := by
  have e : (((List.range (d + 1)).map fun i => k + i).map f).max? = some (f (k + d)) := by
    refine List.max?_eq_some_iff.mpr ⟨?_, ?_⟩
    · exact List.mem_map.mpr ⟨k + d, List.mem_map.mpr ⟨d, List.mem_range.mpr (Nat.lt_succ_self _), rfl⟩, rfl⟩
    · intro x hx
      obtain ⟨y, hy, rfl⟩ := List.mem_map.mp hx
      obtain ⟨i, hi, rfl⟩ := List.mem_map.mp hy
      exact h i (Nat.lt_succ_iff.mp (List.mem_range.mp hi))
  rw [e]; rfl
/-- **what a bucket's samples come to**: the least where the fewest lie there, the greatest where the most do -/
theorem sums_eq {b : Bucket} (ok : OkB b) (sp : Span b) (a c : Nat) : ((sums b a c).1 : Int) = loF b (counts b a c).1 ∧ ((sums b a c).2 : Int) = hiF b (counts b a c).2 := by
  obtain ⟨h1, h2⟩ := counts_le ok sp a c
  obtain ⟨d, hd⟩ : ∃ d, (counts b a c).2 = (counts b a c).1 + d := ⟨_, (Nat.add_sub_cancel' h1).symm⟩
  have er : (counts b a c).2 + 1 - (counts b a c).1 = d + 1 := by omega
  unfold sums
  dsimp only
  rw [er]
  refine ⟨?_, ?_⟩
  · rw [min_first _ d fun i hi => ?_]
    · exact sumLeast_eq ok (by omega)
    · have q := loF_mono ok (k := ((counts b a c).1 : Int)) (j := (((counts b a c).1 + i : Nat) : Int)) (by omega)
      rw [← sumLeast_eq ok (by omega), ← sumLeast_eq ok (by omega)] at q
      exact Int.ofNat_le.mp q
  · rw [max_last _ d fun i hi => ?_]
    · rw [← hd]
      exact sumMost_eq ok h2
    · have q := hiF_mono ok (k := (((counts b a c).1 + i : Nat) : Int)) (j := (((counts b a c).1 + d : Nat) : Int)) (by omega)
      rw [← sumMost_eq ok (by omega), ← sumMost_eq ok (by omega)] at q
      exact Int.ofNat_le.mp q
theorem Good.sum {h : House} {s b l : D} (G : Good h s b l) (a c : Nat) : h.sum a c = tally (fun x => sums x a c) (kept s b l) := (tally_perm G.all).symm
theorem Good.span {h : House} {s b l : D} (G : Good h s b l) (S : Spans h) : ∀ x ∈ kept s b l, Span x := fun x hx => S.all x (G.all.mem_iff.mp hx)
theorem Good.few {h : House} {s b l : D} (G : Good h s b l) (S : Spans h) : ∀ x ∈ kept s b l, x.n ≤ 2000001 := fun x hx => S.few x (G.all.mem_iff.mp hx)
theorem fold_cols (f : Bucket → Nat × Nat) : ∀ (l : List Bucket) (m : Nat × Nat), (((l.foldl (fun m b => plus m (f b)) m).1 : Nat) : Int) = m.1 + ((l.map f).map fun z => (z.1 : Int)).sum ∧ (((l.foldl (fun m b => plus m (f b)) m).2 : Nat) : Int) = m.2 + ((l.map f).map fun z => (z.2 : Int)).sum
  | [], m => by simp
  | b :: l, m => by
    obtain ⟨h1, h2⟩ := fold_cols f l (plus m (f b))
    rw [List.foldl_cons, h1, h2, List.map_cons, List.map_cons, List.map_cons, List.sum_cons, List.sum_cons]
    unfold plus
    dsimp only
    omega
theorem tally_cols (f : Bucket → Nat × Nat) (l : List Bucket) : ((l.map f).map fun z => (z.1 : Int)).sum = ((tally f l).1 : Nat) ∧ ((l.map f).map fun z => (z.2 : Int)).sum = ((tally f l).2 : Nat) := by
  obtain ⟨h1, h2⟩ := fold_cols f l (0, 0)
  unfold tally
  rw [h1, h2]
  dsimp only
  omega
/-! ### the greatest -/
theorem max_perm {l l' : List Nat} (p : l.Perm l') : l.max? = l'.max? := by
  cases e : l.max? with
  | none =>
    have : l = [] := List.max?_eq_none_iff.mp e
    subst this
    have : l' = [] := List.nil_perm.mp p
    subst this
    rfl
  | some m =>
    obtain ⟨h1, h2⟩ := List.max?_eq_some_iff.mp e
    exact (List.max?_eq_some_iff.mpr ⟨p.mem_iff.mp h1, fun b hb => h2 b (p.mem_iff.mpr hb)⟩).symm
def tops (a c : Nat) (l : List Bucket) : List Nat := (l.filter fun b => decide (0 < (counts b a c).2)).map (·.most)
theorem step_most {h : House} {s b l : D} (G : Good h s b l) {a c : Nat} (h1 : ¬ c ≤ a) (h2 : ¬ a < h.edge2) : h.step (.most a c) = (h, match (tops a c (kept s b l)).max? with
    | none => says (-4)
    | some m => says (m : Nat)) := by
  have p : (tops a c (kept s b l)).Perm ((h.touched a c).map fun b => b.most) := (G.all.filter _).map _
  rw [max_perm p]
  have e : h.step (.most a c) = (match (h.touched a c).map fun b => b.most with
    | [] => (h, says (-4))
    | x :: l => (h, says (l.foldl max x : Nat))) := (if_neg h1).trans (if_neg h2)
  rw [e]
  cases (h.touched a c).map fun b => b.most with
  | nil => rfl
  | cons x l => rfl
theorem tops_more (a c : Nat) (l : List Bucket) (b : Bucket) : tops a c (l ++ [b]) = if 0 < (counts b a c).2 then tops a c l ++ [b.most] else tops a c l := by
  unfold tops
  rw [List.filter_append, List.map_append]
  by_cases h : 0 < (counts b a c).2
  · rw [if_pos h, List.filter_cons_of_pos (by simpa using h)]
    rfl
  · rw [if_neg h, List.filter_cons_of_neg (by simpa using h)]
    simp
/-! ### in order -/
theorem sorted_keys {w : Nat} (hw : 0 < w) {p : D} {t : Tier} (h : R w p t) {ns : List Int} (hp : ns.Perm (p.map fun x => (x.1 : Int))) (hs : ns.Pairwise (fun x y => x ≤ y)) : ns = t.map fun x => ((x.1 * w : Nat) : Int) := by
  have q : (p.map fun x => (x.1 : Int)).Perm (t.map fun x => ((x.1 * w : Nat) : Int)) := by
    have q := h.perm.map (fun x : Nat × Bucket => (x.1 : Int))
    rw [List.map_map] at q
    exact q
  have st : (t.map fun x => ((x.1 * w : Nat) : Int)).Pairwise (fun x y => x ≤ y) := by
    refine List.pairwise_map.mpr (List.Pairwise.imp ?_ h.sorted)
    intro x y hxy
    have := Nat.mul_le_mul_right w (Nat.le_of_lt hxy)
    omega
  exact (hp.trans q).eq_of_pairwise (fun a b _ _ h1 h2 => by omega) hs st
theorem R.look {w : Nat} (hw : 0 < w) {p : D} {t : Tier} (h : R w p t) {x : Nat × Bucket} (hx : x ∈ t) : Ck.look (x.1 * w) p = some x.2 :=
  look_mem (h.nd hw) (h.perm.mem_iff.mpr (List.mem_map.mpr ⟨x, hx, rfl⟩))
end Ck

set_option linter.all false
set_option maxRecDepth 100000
/-! The flat list of calls, call by call. -/
namespace Ck
open Sq38 (House)
/-- a call by its number and its numbers -/
inductive CallIs : Int → List Int → Sq38.Call → Prop where
  | begin_ (w v k0 k1 k2 : Nat) : CallIs 1 [w, v, k0, k1, k2] (.begin_ w v k0 k1 k2)
  | sample (t v : Nat) : CallIs 2 [t, v] (.sample t v)
  | age (t : Nat) : CallIs 3 [t] (.age t)
  | count (a c : Nat) : CallIs 4 [a, c] (.count a c)
  | sum (a c : Nat) : CallIs 5 [a, c] (.sum a c)
  | most (a c : Nat) : CallIs 6 [a, c] (.most a c)
  | edges : CallIs 7 [] .edges
  | buckets (i : Nat) : CallIs 8 [i] (.buckets i)
def nums (n : Int) : Option Nat := (PySq38.shape n).map (·.1)
theorem shape_cases {n : Int} {k j : Nat} (h : PySq38.shape n = some (k, j)) : j = 0 ∧ ((n = 1 ∧ k = 5) ∨ (n = 2 ∧ k = 2) ∨ (n = 3 ∧ k = 1) ∨ (n = 4 ∧ k = 2) ∨ (n = 5 ∧ k = 2) ∨ (n = 6 ∧ k = 2) ∨ (n = 7 ∧ k = 0) ∨ (n = 8 ∧ k = 1)) := by
  unfold PySq38.shape at h
  repeat' split at h
  all_goals first
    | (obtain ⟨rfl, rfl⟩ := Prod.mk.inj (Option.some.inj h); refine ⟨rfl, ?_⟩; omega)
    | cases h
theorem len_split {xs : List Int} {k : Nat} (h : xs.length = k + 1) : ∃ x r, xs = x :: r ∧ r.length = k := by
  cases xs with
  | nil => cases h
  | cons x r => exact ⟨x, r, rfl, Nat.succ.inj h⟩
theorem nat_of {x : Int} (h : 0 ≤ x) : ∃ n : Nat, x = n := ⟨x.toNat, by omega⟩
/-- what is read, is one of the calls; what the machine does at it -/
theorem call_is {n : Int} {k j : Nat} (hs : PySq38.shape n = some (k, j)) {xs : List Int} (hl : xs.length = k) (h0 : ∀ x ∈ xs, 0 ≤ x) :
    ∃ c, CallIs n xs c ∧ ∀ h : House, Sq38Neutral.step h (PySq38.whole [n :: xs]) = ((h.step c).1, (h.step c).2.value :: (h.step c).2.out) := by
  obtain ⟨_, hc⟩ := shape_cases hs
  rcases hc with ⟨rfl, rfl⟩ | ⟨rfl, rfl⟩ | ⟨rfl, rfl⟩ | ⟨rfl, rfl⟩ | ⟨rfl, rfl⟩ | ⟨rfl, rfl⟩ | ⟨rfl, rfl⟩ | ⟨rfl, rfl⟩
  · obtain ⟨x1, r1, rfl, l1⟩ := len_split hl
    obtain ⟨x2, r2, rfl, l2⟩ := len_split l1
    obtain ⟨x3, r3, rfl, l3⟩ := len_split l2
    obtain ⟨x4, r4, rfl, l4⟩ := len_split l3
    obtain ⟨x5, r5, rfl, l5⟩ := len_split l4
    obtain rfl := List.eq_nil_of_length_eq_zero l5
    obtain ⟨n1, rfl⟩ := nat_of (h0 x1 (by simp))
    obtain ⟨n2, rfl⟩ := nat_of (h0 x2 (by simp))
    obtain ⟨n3, rfl⟩ := nat_of (h0 x3 (by simp))
    obtain ⟨n4, rfl⟩ := nat_of (h0 x4 (by simp))
    obtain ⟨n5, rfl⟩ := nat_of (h0 x5 (by simp))
    exact ⟨_, .begin_ n1 n2 n3 n4 n5, fun h => rfl⟩
  · obtain ⟨x1, r1, rfl, l1⟩ := len_split hl
    obtain ⟨x2, r2, rfl, l2⟩ := len_split l1
    obtain rfl := List.eq_nil_of_length_eq_zero l2
    obtain ⟨n1, rfl⟩ := nat_of (h0 x1 (by simp))
    obtain ⟨n2, rfl⟩ := nat_of (h0 x2 (by simp))
    exact ⟨_, .sample n1 n2, fun h => rfl⟩
  · obtain ⟨x1, r1, rfl, l1⟩ := len_split hl
    obtain rfl := List.eq_nil_of_length_eq_zero l1
    obtain ⟨n1, rfl⟩ := nat_of (h0 x1 (by simp))
    exact ⟨_, .age n1, fun h => rfl⟩
  · obtain ⟨x1, r1, rfl, l1⟩ := len_split hl
    obtain ⟨x2, r2, rfl, l2⟩ := len_split l1
    obtain rfl := List.eq_nil_of_length_eq_zero l2
    obtain ⟨n1, rfl⟩ := nat_of (h0 x1 (by simp))
    obtain ⟨n2, rfl⟩ := nat_of (h0 x2 (by simp))
    exact ⟨_, .count n1 n2, fun h => rfl⟩
  · obtain ⟨x1, r1, rfl, l1⟩ := len_split hl
    obtain ⟨x2, r2, rfl, l2⟩ := len_split l1
    obtain rfl := List.eq_nil_of_length_eq_zero l2
    obtain ⟨n1, rfl⟩ := nat_of (h0 x1 (by simp))
    obtain ⟨n2, rfl⟩ := nat_of (h0 x2 (by simp))
    exact ⟨_, .sum n1 n2, fun h => rfl⟩
  · obtain ⟨x1, r1, rfl, l1⟩ := len_split hl
    obtain ⟨x2, r2, rfl, l2⟩ := len_split l1
    obtain rfl := List.eq_nil_of_length_eq_zero l2
    obtain ⟨n1, rfl⟩ := nat_of (h0 x1 (by simp))
    obtain ⟨n2, rfl⟩ := nat_of (h0 x2 (by simp))
    exact ⟨_, .most n1 n2, fun h => rfl⟩
  · obtain rfl := List.eq_nil_of_length_eq_zero hl
    exact ⟨_, .edges, fun h => rfl⟩
  · obtain ⟨x1, r1, rfl, l1⟩ := len_split hl
    obtain rfl := List.eq_nil_of_length_eq_zero l1
    obtain ⟨n1, rfl⟩ := nat_of (h0 x1 (by simp))
    exact ⟨_, .buckets n1, fun h => rfl⟩
/-- one call off the front -/
theorem calls_cons {f : Nat} {n : Int} {r : List Int} {cs : List (List (List Int))} (h : PyFlat.calls PySq38.shape f (n :: r) = some cs) :
    ∃ k cs' f', PySq38.shape n = some (k, 0) ∧ k ≤ r.length ∧ cs = [n :: r.take k] :: cs' ∧ PyFlat.calls PySq38.shape f' (r.drop k) = some cs' := by
  cases f with
  | zero => cases h
  | succ f =>
    have h' : (match PyFlat.call PySq38.shape (n :: r) with
      | none => none
      | some (c, t) => match PyFlat.calls PySq38.shape f t with
        | none => none
        | some cs => some (c :: cs)) = some cs := h
    cases e : PyFlat.call PySq38.shape (n :: r) with
    | none => rw [e] at h'; cases h'
    | some ct =>
      obtain ⟨c, t⟩ := ct
      rw [e] at h'
      dsimp only at h'
      cases e2 : PyFlat.calls PySq38.shape f t with
      | none => rw [e2] at h'; cases h'
      | some cs' =>
        rw [e2] at h'
        have e3 : c :: cs' = cs := Option.some.inj h'
        have e' : (match PySq38.shape n with
          | none => none
          | some (m, k) => if r.length < m then none else match PyFlat.rows k (r.drop m) with
            | none => none
            | some (xs, t) => some ((n :: r.take m) :: xs, t)) = some (c, t) := e
        cases es : PySq38.shape n with
        | none => rw [es] at e'; cases e'
        | some mk =>
          obtain ⟨m, k⟩ := mk
          obtain ⟨rfl, _⟩ := shape_cases es
          rw [es] at e'
          dsimp only at e'
          by_cases hl : r.length < m
          · rw [if_pos hl] at e'; cases e'
          · rw [if_neg hl] at e'
            have e4 : some ((n :: r.take m) :: [], r.drop m) = some (c, t) := e'
            obtain ⟨e5, e6⟩ := Prod.mk.inj (Option.some.inj e4)
            refine ⟨m, cs', f, rfl, Nat.le_of_not_lt hl, ?_, ?_⟩
            · rw [← e3, ← e5]
            · rw [e6]; exact e2
theorem calls_nil {f : Nat} {cs : List (List (List Int))} (h : PyFlat.calls PySq38.shape f [] = some cs) : cs = [] := by
  have h' : some ([] : List (List (List Int))) = some cs := by
    cases f <;> exact h
  exact (Option.some.inj h').symm
/-- where the program stands in the list: what is answered so far, and what is still to come -/
structure Stand (ns : List Int) (i : Nat) (h : House) (acc : List Int) : Prop where
  ex : ∃ f cs, PyFlat.calls PySq38.shape f (ns.drop i) = some cs ∧ PySq38.answers ns = acc ++ PyFlat.told (PyFlat.played Sq38Neutral.step h (cs.map PySq38.whole))
theorem stand0 {ns : List Int} (h : PySq38.answers_asked ns = true) : Stand ns 0 Sq38.fresh [] := by
  unfold PySq38.answers_asked at h
  cases e : PyFlat.calls PySq38.shape ns.length ns with
  | none => rw [e] at h; cases h
  | some cs =>
    refine ⟨ns.length, cs, e, ?_⟩
    unfold PySq38.answers PySq38.calls
    rw [e]
    rfl
theorem Stand.done {ns : List Int} {h : House} {acc : List Int} (s : Stand ns ns.length h acc) : PySq38.answers ns = acc := by
  obtain ⟨f, cs, e1, e2⟩ := s.ex
  rw [List.drop_length] at e1
  rw [e2, calls_nil e1]
  exact List.append_nil _
/-- the next call -/
theorem Stand.next {ns : List Int} {i : Nat} {h : House} {acc : List Int} (s : Stand ns i h acc) (hi : i < ns.length) (h0 : ∀ x ∈ ns, 0 ≤ x) :
    ∃ (n : Int) (k : Nat) (c : Sq38.Call), ns[i]? = some n ∧ PySq38.shape n = some (k, 0) ∧ i + 1 + k ≤ ns.length ∧ CallIs n ((ns.drop (i + 1)).take k) c ∧
      Stand ns (i + 1 + k) (h.step c).1 (acc ++ (((h.step c).2.value :: (h.step c).2.out).length : Int) :: ((h.step c).2.value :: (h.step c).2.out)) := by
  obtain ⟨f, cs, e1, e2⟩ := s.ex
  have ed : ns.drop i = ns[i] :: ns.drop (i + 1) := List.drop_eq_getElem_cons hi
  rw [ed] at e1
  obtain ⟨k, cs', f', hs, hk, rfl, hc⟩ := calls_cons e1
  rw [List.length_drop] at hk
  have hl : ((ns.drop (i + 1)).take k).length = k := by rw [List.length_take, List.length_drop]; omega
  obtain ⟨c, hci, hst⟩ := call_is hs hl fun x hx => h0 x (List.mem_of_mem_drop (List.mem_of_mem_take hx))
  refine ⟨ns[i], k, c, List.getElem?_eq_getElem hi, hs, by omega, hci, f', cs', ?_, ?_⟩
  · rw [List.drop_drop] at hc
    exact hc
  · rw [e2, List.map_cons]
    show acc ++ PyFlat.told ((Sq38Neutral.step h (PySq38.whole [ns[i] :: (ns.drop (i + 1)).take k])).2 :: PyFlat.played Sq38Neutral.step (Sq38Neutral.step h (PySq38.whole [ns[i] :: (ns.drop (i + 1)).take k])).1 (cs'.map PySq38.whole)) = _
    rw [hst h]
    unfold PyFlat.told
    rw [List.flatMap_cons, List.append_assoc]
theorem Stand.short {ns : List Int} {i : Nat} {h : House} {acc : List Int} (s : Stand ns i h acc) (ha : PySq38.answers_asked ns = true) : acc.length ≤ 10000000 := by
  obtain ⟨f, cs, e1, e2⟩ := s.ex
  have hl : (PySq38.answers ns).length ≤ 10000000 := by
    unfold PySq38.answers_asked at ha
    cases e : PyFlat.calls PySq38.shape ns.length ns with
    | none => rw [e] at ha; cases ha
    | some cs =>
      rw [e] at ha
      dsimp only at ha
      simp only [Bool.and_eq_true] at ha
      exact of_decide_eq_true ha.2
  rw [e2, List.length_append] at hl
  omega
end Ck

set_option Elab.async false
set_option linter.all false
set_option maxRecDepth 100000
set_option maxHeartbeats 2000000
/-! How the mirror lies in the heap. -/
namespace Ck
open PySem PySem.Spec PyProof.Rows L2 CkL
open Sq38 (Bucket)
def top (i : Nat) : Stmt := PySem.Challenge.pw_coarsekept_s01_answers.main.body.getD i (.Pass ⟨0, 0, 0, 0⟩)
/-! ### a bucket -/
def bF (b : Bucket) : List (Str × V) := [("number", .int b.n), ("first", .int b.first), ("last", .int b.last), ("total", .int b.sum), ("least", .int b.least), ("greatest", .int b.most)]
def BkAt (CB : Addr) (H : Hp) (a : Addr) (b : Bucket) : Prop := ∃ dx, H a = some (.ins CB dx (bF b))
theorem bF_n (b : Bucket) : (bF b).lookup ("number" : Str) = some (.int b.n) := lk_here
theorem bF_f (b : Bucket) : (bF b).lookup ("first" : Str) = some (.int b.first) := by
  repeat (first | exact lk_here | refine (lk_past (by decide +kernel)).trans ?_)
theorem bF_l (b : Bucket) : (bF b).lookup ("last" : Str) = some (.int b.last) := by
  repeat (first | exact lk_here | refine (lk_past (by decide +kernel)).trans ?_)
theorem bF_t (b : Bucket) : (bF b).lookup ("total" : Str) = some (.int b.sum) := by
  repeat (first | exact lk_here | refine (lk_past (by decide +kernel)).trans ?_)
theorem bF_e (b : Bucket) : (bF b).lookup ("least" : Str) = some (.int b.least) := by
  repeat (first | exact lk_here | refine (lk_past (by decide +kernel)).trans ?_)
theorem bF_g (b : Bucket) : (bF b).lookup ("greatest" : Str) = some (.int b.most) := by
  repeat (first | exact lk_here | refine (lk_past (by decide +kernel)).trans ?_)
theorem bF_new (x1 x2 x3 x4 x5 x6 : V) : putF "greatest" x6 (putF "least" x5 (putF "total" x4 (putF "last" x3 (putF "first" x2 (putF "number" x1 []))))) = ([("number", x1), ("first", x2), ("last", x3), ("total", x4), ("least", x5), ("greatest", x6)] : List (Str × V)) := by
  have e1 : putF "number" x1 [] = ([("number", x1)] : List (Str × V)) := rfl
  have e2 : putF "first" x2 ([("number", x1)] : List (Str × V)) = ([("number", x1), ("first", x2)] : List (Str × V)) := (put_past (by decide +kernel)).trans rfl
  have e3 : putF "last" x3 ([("number", x1), ("first", x2)] : List (Str × V)) = ([("number", x1), ("first", x2), ("last", x3)] : List (Str × V)) := (put_past (by decide +kernel)).trans (congrArg _ ((put_past (by decide +kernel)).trans rfl))
  have e4 : putF "total" x4 ([("number", x1), ("first", x2), ("last", x3)] : List (Str × V)) = ([("number", x1), ("first", x2), ("last", x3), ("total", x4)] : List (Str × V)) := (put_past (by decide +kernel)).trans (congrArg _ ((put_past (by decide +kernel)).trans (congrArg _ ((put_past (by decide +kernel)).trans rfl))))
  have e5 : putF "least" x5 ([("number", x1), ("first", x2), ("last", x3), ("total", x4)] : List (Str × V)) = ([("number", x1), ("first", x2), ("last", x3), ("total", x4), ("least", x5)] : List (Str × V)) := (put_past (by decide +kernel)).trans (congrArg _ ((put_past (by decide +kernel)).trans (congrArg _ ((put_past (by decide +kernel)).trans (congrArg _ ((put_past (by decide +kernel)).trans rfl))))))
  rw [e1, e2, e3, e4, e5]
  exact (put_past (by decide +kernel)).trans (congrArg _ ((put_past (by decide +kernel)).trans (congrArg _ ((put_past (by decide +kernel)).trans (congrArg _ ((put_past (by decide +kernel)).trans (congrArg _ ((put_past (by decide +kernel)).trans rfl))))))))
/-- what the top has written. C: House, CB: Bucket, CG: the dict GIVEN -/
structure Txt (K : PySem.W.Frag) (mg : Str → Option Value) (C CB CG : Addr) (tk : Nat → Tok) : Prop where
  ne : C ≠ CB
  clB : Cls K CB
  nN : NoAttr K CB "number"
  nF : NoAttr K CB "first"
  nL : NoAttr K CB "last"
  nT : NoAttr K CB "total"
  nE : NoAttr K CB "least"
  nG : NoAttr K CB "greatest"
  cl : Cls K C
  hw : NoAttr K C "width"
  hv : NoAttr K C "wide"
  h0 : NoAttr K C "samples_time"
  h1 : NoAttr K C "buckets_time"
  h2 : NoAttr K C "larger_time"
  x0 : NoAttr K C "e0"
  x1 : NoAttr K C "e1"
  x2 : NoAttr K C "e2"
  hs : NoAttr K C "samples"
  hb : NoAttr K C "buckets"
  hl : NoAttr K C "larger"
  b_max : mg "max" = none
  b_min : mg "min" = none
  b_len : mg "len" = none
  b_list : mg "list" = none
  b_sum : mg "sum" = none
  b_sorted : mg "sorted" = none
  c_LIMIT : mg "LIMIT" = some (.int 1000000 (tk 0))
  c_LATEST_NOW : mg "LATEST_NOW" = some (.int 2000000 (tk 1))
  c_MOST_SAMPLES : mg "MOST_SAMPLES" = some (.int 100 (tk 2))
  c_GIVEN : mg "GIVEN" = some (.ref CG)
  given : ∀ (n : Int) (k : Nat), PySq38.shape n = some (k, 0) → KDctI K CG n (.int k)
section
variable {σ : L2.St} {H : Hp} {a CB : Addr} {b : Bucket} {ta : TE} {K : PySem.W.Frag} {mg : Str → Option Value} {C CG : Addr} {tk : Nat → Tok}
theorem val_bn (T : Txt K mg C CB CG tk) (h : BkAt CB H a b) (ha : Val ta σ H (.ref a)) : Val (tFld K ta "number") σ H (.int b.n) := by
  obtain ⟨dx, h⟩ := h
  exact val_fld ha h T.clB T.nN (bF_n b)
theorem val_bf (T : Txt K mg C CB CG tk) (h : BkAt CB H a b) (ha : Val ta σ H (.ref a)) : Val (tFld K ta "first") σ H (.int b.first) := by
  obtain ⟨dx, h⟩ := h
  exact val_fld ha h T.clB T.nF (bF_f b)
theorem val_bl (T : Txt K mg C CB CG tk) (h : BkAt CB H a b) (ha : Val ta σ H (.ref a)) : Val (tFld K ta "last") σ H (.int b.last) := by
  obtain ⟨dx, h⟩ := h
  exact val_fld ha h T.clB T.nL (bF_l b)
theorem val_bt (T : Txt K mg C CB CG tk) (h : BkAt CB H a b) (ha : Val ta σ H (.ref a)) : Val (tFld K ta "total") σ H (.int b.sum) := by
  obtain ⟨dx, h⟩ := h
  exact val_fld ha h T.clB T.nT (bF_t b)
theorem val_be (T : Txt K mg C CB CG tk) (h : BkAt CB H a b) (ha : Val ta σ H (.ref a)) : Val (tFld K ta "least") σ H (.int b.least) := by
  obtain ⟨dx, h⟩ := h
  exact val_fld ha h T.clB T.nE (bF_e b)
theorem val_bg (T : Txt K mg C CB CG tk) (h : BkAt CB H a b) (ha : Val ta σ H (.ref a)) : Val (tFld K ta "greatest") σ H (.int b.most) := by
  obtain ⟨dx, h⟩ := h
  exact val_fld ha h T.clB T.nG (bF_g b)
end
/-! ### heaps: all instances of the buckets' class stay -/
def Keeps (CB : Addr) (H H' : Hp) : Prop := ∀ a dx fs, H a = some (.ins CB dx fs) → H' a = some (.ins CB dx fs)
theorem Keeps.refl (CB : Addr) (H : Hp) : Keeps CB H H := fun _ _ _ h => h
theorem Keeps.trans {CB : Addr} {H H1 H2 : Hp} (a : Keeps CB H H1) (b : Keeps CB H1 H2) : Keeps CB H H2 := fun c d f h => b c d f (a c d f h)
theorem Keeps.bk {CB : Addr} {H H' : Hp} {a : Addr} {b : Bucket} (k : Keeps CB H H') (h : BkAt CB H a b) : BkAt CB H' a b := by
  obtain ⟨dx, h⟩ := h
  exact ⟨dx, k _ _ _ h⟩
theorem Same.keeps {CB : Addr} {H H' : Hp} (s : Same H H') : Keeps CB H H' := fun a dx fs h => s a _ h
theorem same_new {H : Hp} {r : Addr} {o : HO} (h : H r = none) : Same H (upd H r o) := fun b u e => by
  rw [upd_ne (ne_of_none e h)]
  exact e
/-- a new object, changed -/
theorem same_upd {H H' : Hp} {r : Addr} {o : HO} (s : Same H H') (h : H r = none) : Same H (upd H' r o) := fun b u e => by
  rw [upd_ne (ne_of_none e h)]
  exact s b u e
theorem keeps_new {CB : Addr} {H : Hp} {p : Addr} {o : HO} (h : H p = none) : Keeps CB H (upd H p o) := fun a dx fs e => by
  rw [upd_ne (ne_of_none e h)]
  exact e
theorem keeps_upd {CB : Addr} {H : Hp} {p : Addr} {o q : HO} (h : H p = some q) (hq : ∀ dx fs, q ≠ .ins CB dx fs) : Keeps CB H (upd H p o) := fun a dx fs e => by
  have n : a ≠ p := fun z => by
    rw [z, h] at e
    exact hq dx fs (Option.some.inj e)
  rw [upd_ne n]
  exact e
/-! ### a dict of buckets -/
inductive Rep (CB : Addr) (H : Hp) : List (Key × V) → D → Prop where
  | nil : Rep CB H [] []
  | cons {k : Nat} {a : Addr} {b : Bucket} {kvs : List (Key × V)} {l : D} (h : BkAt CB H a b) (r : Rep CB H kvs l) : Rep CB H ((Sum.inl (k : Int), .ref a) :: kvs) ((k, b) :: l)
theorem Rep.keep {CB : Addr} {H H' : Hp} (k : Keeps CB H H') : ∀ {kvs : List (Key × V)} {l : D}, Rep CB H kvs l → Rep CB H' kvs l
  | _, _, .nil => .nil
  | _, _, .cons h r => .cons (k.bk h) (r.keep k)
theorem Rep.len {CB : Addr} {H : Hp} : ∀ {kvs : List (Key × V)} {l : D}, Rep CB H kvs l → kvs.length = l.length
  | _, _, .nil => rfl
  | _, _, .cons _ r => congrArg (· + 1) r.len
theorem Rep.at {CB : Addr} {H : Hp} : ∀ {kvs : List (Key × V)} {l : D}, Rep CB H kvs l → ∀ {i : Nat} {kv : Key × V}, kvs[i]? = some kv → ∃ k a b, kv = (Sum.inl ((k : Nat) : Int), .ref a) ∧ l[i]? = some (k, b) ∧ BkAt CB H a b
  | _, _, .nil, _, _, h => by cases h
  | _, _, .cons (k := k) (a := a) (b := b) h _, 0, _, e => ⟨k, a, b, (Option.some.inj e).symm, rfl, h⟩
  | _, _, .cons _ r, i + 1, _, e => r.at (i := i) e
theorem inl_ne {k j : Nat} (h : k ≠ j) : ¬ (Sum.inl (k : Int) : Key) = Sum.inl (j : Int) := fun e => h (by have := Sum.inl.inj e; omega)
theorem Rep.look {CB : Addr} {H : Hp} (k : Nat) : ∀ {kvs : List (Key × V)} {l : D}, Rep CB H kvs l → match Ck.look k l with
    | none => valV kvs (Sum.inl (k : Int)) = none
    | some b => ∃ a, valV kvs (Sum.inl (k : Int)) = some (.ref a) ∧ BkAt CB H a b
  | _, _, .nil => rfl
  | _, _, .cons (k := j) (a := a) (b := b) (kvs := kvs) (l := l) h r => by
    show match (if j = k then some b else Ck.look k l) with
      | none => _
      | some b => _
    by_cases c : j = k
    · rw [if_pos c]
      exact ⟨a, valV_pos (by rw [c]), h⟩
    · rw [if_neg c, valV_neg (inl_ne c)]
      exact r.look k
theorem Rep.none {CB : Addr} {H : Hp} {k : Nat} {kvs : List (Key × V)} {l : D} (r : Rep CB H kvs l) (e : Ck.look k l = none) : valV kvs (Sum.inl (k : Int)) = none := by
  have := r.look k
  rw [e] at this
  exact this
theorem Rep.some {CB : Addr} {H : Hp} {k : Nat} {b : Bucket} {kvs : List (Key × V)} {l : D} (r : Rep CB H kvs l) (e : Ck.look k l = some b) : ∃ a, valV kvs (Sum.inl (k : Int)) = some (.ref a) ∧ BkAt CB H a b := by
  have := r.look k
  rw [e] at this
  exact this
theorem Rep.snoc {CB : Addr} {H : Hp} {k : Nat} {a : Addr} {b : Bucket} (h : BkAt CB H a b) : ∀ {kvs : List (Key × V)} {l : D}, Rep CB H kvs l → Rep CB H (kvs ++ [(Sum.inl (k : Int), .ref a)]) (l ++ [(k, b)])
  | _, _, .nil => .cons h .nil
  | _, _, .cons h' r => .cons h' (r.snoc h)
theorem look_all {k : Nat} : ∀ {l : D}, look k l = none → ∀ x ∈ l, x.1 ≠ k
  | x :: l, h, y, hy => by
    have h' : (if x.1 = k then some x.2 else look k l) = none := h
    by_cases c : x.1 = k
    · rw [if_pos c] at h'; cases h'
    · rw [if_neg c] at h'
      rcases List.mem_cons.mp hy with e | e
      · rw [e]; exact c
      · exact look_all h' y e
/-- a new key -/
theorem Rep.add {CB : Addr} {H : Hp} {k : Nat} {a : Addr} {b : Bucket} {kvs : List (Key × V)} {l : D} (r : Rep CB H kvs l) (e : Ck.look k l = Option.none) (h : BkAt CB H a b) : Rep CB H (putK kvs (Sum.inl (k : Int)) (.ref a)) (l ++ [(k, b)]) := by
  rw [putK_new _ (r.none e)]
  exact r.snoc h
theorem Rep.repl {CB : Addr} {H : Hp} {k : Nat} {a : Addr} {b x : Bucket} (h : BkAt CB H a (x.with_ b)) : ∀ {kvs : List (Key × V)} {l : D}, Rep CB H kvs l → ND l → Ck.look k l = Option.some x →
    Rep CB H (kvs.map fun kv => if kv.1 = Sum.inl (k : Int) then (kv.1, .ref a) else kv) (ups k b l)
  | _, _, .nil, _, e => by cases e
  | _, _, .cons (k := j) (a := a') (b := b') (kvs := kvs) (l := l) h' r, n, e => by
    obtain ⟨n1, n2⟩ := List.pairwise_cons.mp n
    have e' : (if j = k then Option.some b' else Ck.look k l) = Option.some x := e
    rw [List.map_cons]
    show Rep CB H _ (if j = k then (k, b'.with_ b) :: l else (j, b') :: ups k b l)
    by_cases c : j = k
    · subst c
      rw [if_pos rfl] at e'
      have ex : b' = x := Option.some.inj e'
      subst ex
      have hd : (if ((Sum.inl (j : Int), V.ref a') : Key × V).1 = Sum.inl (j : Int) then (((Sum.inl (j : Int), V.ref a') : Key × V).1, V.ref a) else (Sum.inl (j : Int), V.ref a')) = (Sum.inl (j : Int), V.ref a) := if_pos rfl
      rw [hd, if_pos rfl]
      have id : (kvs.map fun kv => if kv.1 = Sum.inl (j : Int) then (kv.1, V.ref a) else kv) = kvs := by
        have q : valV kvs (Sum.inl (j : Int)) = Option.none := r.none (look_none fun y hy z => n1 y hy z.symm)
        have nm := valV_not q
        refine (List.map_congr_left fun kv hk => ?_).trans (List.map_id _)
        rw [if_neg fun z => nm (List.mem_map.mpr ⟨kv, hk, z⟩)]
        rfl
      rw [id]
      exact .cons h r
    · rw [if_neg c] at e'
      rw [if_neg (inl_ne c), if_neg c]
      exact .cons h' (r.repl h n2 e')
/-- a key that is there -/
theorem Rep.ups {CB : Addr} {H : Hp} {k : Nat} {a : Addr} {b x : Bucket} {kvs : List (Key × V)} {l : D} (r : Rep CB H kvs l) (n : ND l) (e : Ck.look k l = Option.some x) (h : BkAt CB H a (x.with_ b)) : Rep CB H (putK kvs (Sum.inl (k : Int)) (.ref a)) (Ck.ups k b l) := by
  obtain ⟨a', ha, _⟩ := r.some e
  unfold putK
  rw [valV_any, ha, if_pos (show (Option.some (V.ref a')).isSome = true from rfl)]
  exact r.repl h n e
theorem Rep.mem {CB : Addr} {H : Hp} {k : Nat} {v : V} : ∀ {kvs : List (Key × V)} {l : D}, Rep CB H kvs l → ∀ {i : Nat}, kvs[i]? = Option.some (Sum.inl (k : Int), v) → ∃ x ∈ l, x.1 = k
  | _, _, .nil, _, e => by cases e
  | _, _, .cons (k := j) (b := b) _ _, 0, e => by
    have q : (j : Int) = k := Sum.inl.inj (Prod.mk.inj (Option.some.inj e)).1
    exact ⟨(j, b), List.mem_cons_self, by show j = k; omega⟩
  | _, _, .cons _ r, i + 1, e => by
    obtain ⟨x, hx, ex⟩ := r.mem (i := i) e
    exact ⟨x, List.mem_cons_of_mem _ hx, ex⟩
theorem Rep.val {CB : Addr} {H : Hp} {k : Nat} {v : V} : ∀ {kvs : List (Key × V)} {l : D}, Rep CB H kvs l → ND l → ∀ {i : Nat}, kvs[i]? = Option.some (Sum.inl (k : Int), v) → valV kvs (Sum.inl (k : Int)) = Option.some v
  | _, _, .nil, _, _, e => by cases e
  | _, _, .cons _ _, _, 0, e => by
    obtain ⟨e1, e2⟩ := Prod.mk.inj (Option.some.inj e)
    rw [valV_pos e1, ← e2]
  | _, _, .cons (k := j) (l := l) _ r, n, i + 1, e => by
    obtain ⟨n1, n2⟩ := List.pairwise_cons.mp n
    obtain ⟨x, hx, ex⟩ := r.mem (i := i) e
    have nj : j ≠ k := fun z => n1 x hx (by show j = x.1; omega)
    rw [valV_neg (inl_ne nj)]
    exact r.val n2 (i := i) e
def DictAt (CB : Addr) (H : Hp) (d : Addr) (l : D) : Prop := ∃ kvs, H d = some (.dK kvs) ∧ Rep CB H kvs l
theorem ups_look_none {k : Nat} {b : Bucket} {l : D} (e : look k l = none) : ups k b l = l ++ [(k, b)] := ups_new (look_all e)
/-! ### the house's attributes -/
def names (l : List (Str × V)) : List Str := l.map (·.1)
theorem put_nw {f : Str} {v : V} : ∀ {l : List (Str × V)}, f ∉ names l → putF f v l = l ++ [(f, v)]
  | [], _ => rfl
  | (g, x) :: l, h => by
    have h1 : ¬ g = f := fun e => h (by rw [← e]; exact List.mem_cons_self)
    have h2 : f ∉ names l := fun e => h (List.mem_cons_of_mem _ e)
    rw [put_past h1, put_nw h2]
    rfl
theorem put_mid {f : Str} {v x : V} {r : List (Str × V)} : ∀ {l : List (Str × V)}, f ∉ names l → putF f v (l ++ (f, x) :: r) = l ++ (f, v) :: r
  | [], _ => put_here
  | (g, y) :: l, h => by
    have h1 : ¬ g = f := fun e => h (by rw [← e]; exact List.mem_cons_self)
    have h2 : f ∉ names l := fun e => h (List.mem_cons_of_mem _ e)
    exact (put_past h1).trans (congrArg _ (put_mid h2))
def putAllF (l acc : List (Str × V)) : List (Str × V) := l.foldl (fun a x => putF x.1 x.2 a) acc
theorem putAllF_new : ∀ (l acc : List (Str × V)), (names acc ++ names l).Nodup → putAllF l acc = acc ++ l
  | [], acc, _ => (List.append_nil acc).symm
  | (f, v) :: l, acc, h => by
    have h' : (names acc ++ (f :: names l)).Nodup := h
    have h1 : f ∉ names acc := fun e => (List.nodup_append.mp h').2.2 f e f List.mem_cons_self rfl
    show putAllF l (putF f v acc) = acc ++ (f, v) :: l
    rw [put_nw h1, putAllF_new l (acc ++ [(f, v)])]
    · rw [List.append_assoc]; rfl
    · unfold names
      rw [List.map_append, List.append_assoc]
      exact h
theorem putAllF_old : ∀ (l l' acc : List (Str × V)), names l = names l' → (names acc ++ names l).Nodup → putAllF l (acc ++ l') = acc ++ l
  | [], [], acc, _, _ => rfl
  | [], _ :: _, _, h, _ => by cases h
  | _ :: _, [], _, h, _ => by cases h
  | (f, v) :: l, (g, x) :: l', acc, e, h => by
    obtain ⟨e1, e2⟩ := List.cons.inj (show f :: names l = g :: names l' from e)
    subst e1
    have h' : (names acc ++ (f :: names l)).Nodup := h
    have h1 : f ∉ names acc := fun e => (List.nodup_append.mp h').2.2 f e f List.mem_cons_self rfl
    show putAllF l (putF f v (acc ++ (f, x) :: l')) = acc ++ (f, v) :: l
    rw [put_mid h1]
    have q : acc ++ (f, v) :: l' = (acc ++ [(f, v)]) ++ l' := by rw [List.append_assoc]; rfl
    rw [q, putAllF_old l l' (acc ++ [(f, v)]) e2]
    · rw [List.append_assoc]; rfl
    · unfold names
      rw [List.map_append, List.append_assoc]
      exact h
def hF (h : Sq38.House) (d1 d2 d3 : Addr) : List (Str × V) := [("width", .int h.width), ("wide", .int h.wide), ("samples_time", .int h.keep0), ("buckets_time", .int h.keep1), ("larger_time", .int h.keep2), ("e0", .int h.edge0), ("e1", .int h.edge1), ("e2", .int h.edge2), ("samples", .ref d1), ("buckets", .ref d2), ("larger", .ref d3)]
def HsAt (C : Addr) (H : Hp) (p : Addr) (h : Sq38.House) (d1 d2 d3 : Addr) : Prop := ∃ dx, H p = some (.ins C dx (hF h d1 d2 d3))
def hN : List Str := ["width", "wide", "samples_time", "buckets_time", "larger_time", "e0", "e1", "e2", "samples", "buckets", "larger"]
theorem hF_names (h : Sq38.House) (d1 d2 d3 : Addr) : names (hF h d1 d2 d3) = hN := rfl
theorem hN_nd : hN.Nodup := by decide +kernel
theorem hF_w (h : Sq38.House) (d1 d2 d3 : Addr) : (hF h d1 d2 d3).lookup ("width" : Str) = some (.int h.width) := by
  repeat (first | exact lk_here | refine (lk_past (by decide +kernel)).trans ?_)
theorem hF_v (h : Sq38.House) (d1 d2 d3 : Addr) : (hF h d1 d2 d3).lookup ("wide" : Str) = some (.int h.wide) := by
  repeat (first | exact lk_here | refine (lk_past (by decide +kernel)).trans ?_)
theorem hF_0 (h : Sq38.House) (d1 d2 d3 : Addr) : (hF h d1 d2 d3).lookup ("samples_time" : Str) = some (.int h.keep0) := by
  repeat (first | exact lk_here | refine (lk_past (by decide +kernel)).trans ?_)
theorem hF_1 (h : Sq38.House) (d1 d2 d3 : Addr) : (hF h d1 d2 d3).lookup ("buckets_time" : Str) = some (.int h.keep1) := by
  repeat (first | exact lk_here | refine (lk_past (by decide +kernel)).trans ?_)
theorem hF_2 (h : Sq38.House) (d1 d2 d3 : Addr) : (hF h d1 d2 d3).lookup ("larger_time" : Str) = some (.int h.keep2) := by
  repeat (first | exact lk_here | refine (lk_past (by decide +kernel)).trans ?_)
theorem hF_e0 (h : Sq38.House) (d1 d2 d3 : Addr) : (hF h d1 d2 d3).lookup ("e0" : Str) = some (.int h.edge0) := by
  repeat (first | exact lk_here | refine (lk_past (by decide +kernel)).trans ?_)
theorem hF_e1 (h : Sq38.House) (d1 d2 d3 : Addr) : (hF h d1 d2 d3).lookup ("e1" : Str) = some (.int h.edge1) := by
  repeat (first | exact lk_here | refine (lk_past (by decide +kernel)).trans ?_)
theorem hF_e2 (h : Sq38.House) (d1 d2 d3 : Addr) : (hF h d1 d2 d3).lookup ("e2" : Str) = some (.int h.edge2) := by
  repeat (first | exact lk_here | refine (lk_past (by decide +kernel)).trans ?_)
theorem hF_s (h : Sq38.House) (d1 d2 d3 : Addr) : (hF h d1 d2 d3).lookup ("samples" : Str) = some (.ref d1) := by
  repeat (first | exact lk_here | refine (lk_past (by decide +kernel)).trans ?_)
theorem hF_b (h : Sq38.House) (d1 d2 d3 : Addr) : (hF h d1 d2 d3).lookup ("buckets" : Str) = some (.ref d2) := by
  repeat (first | exact lk_here | refine (lk_past (by decide +kernel)).trans ?_)
theorem hF_l (h : Sq38.House) (d1 d2 d3 : Addr) : (hF h d1 d2 d3).lookup ("larger" : Str) = some (.ref d3) := by
  repeat (first | exact lk_here | refine (lk_past (by decide +kernel)).trans ?_)
theorem lk_not {f : Str} : ∀ {l : List (Str × V)}, f ∉ names l → l.lookup f = none
  | [], _ => rfl
  | (g, x) :: l, h => (lk_past (beq_false_of_ne fun e => h (by rw [e]; exact List.mem_cons_self))).trans (lk_not fun e => h (List.mem_cons_of_mem _ e))
theorem hF_no (h : Sq38.House) (d1 d2 d3 : Addr) {f : Str} (n : f ∉ hN) : (hF h d1 d2 d3).lookup f = none := lk_not n
theorem hF_pe0 (h : Sq38.House) (d1 d2 d3 : Addr) (y : Nat) : putF "e0" (.int y) (hF h d1 d2 d3) = hF { h with edge0 := y } d1 d2 d3 := by
  unfold hF
  repeat (first | exact put_here | refine (put_past (by decide +kernel)).trans (congrArg (List.cons _) ?_))
theorem hF_pe1 (h : Sq38.House) (d1 d2 d3 : Addr) (y : Nat) : putF "e1" (.int y) (hF h d1 d2 d3) = hF { h with edge1 := y } d1 d2 d3 := by
  unfold hF
  repeat (first | exact put_here | refine (put_past (by decide +kernel)).trans (congrArg (List.cons _) ?_))
theorem hF_pe2 (h : Sq38.House) (d1 d2 d3 : Addr) (y : Nat) : putF "e2" (.int y) (hF h d1 d2 d3) = hF { h with edge2 := y } d1 d2 d3 := by
  unfold hF
  repeat (first | exact put_here | refine (put_past (by decide +kernel)).trans (congrArg (List.cons _) ?_))
theorem hF_ps (h : Sq38.House) (d1 d2 d3 d : Addr) : putF "samples" (.ref d) (hF h d1 d2 d3) = hF h d d2 d3 := by
  unfold hF
  repeat (first | exact put_here | refine (put_past (by decide +kernel)).trans (congrArg (List.cons _) ?_))
theorem hF_pb (h : Sq38.House) (d1 d2 d3 d : Addr) : putF "buckets" (.ref d) (hF h d1 d2 d3) = hF h d1 d d3 := by
  unfold hF
  repeat (first | exact put_here | refine (put_past (by decide +kernel)).trans (congrArg (List.cons _) ?_))
theorem hF_pl (h : Sq38.House) (d1 d2 d3 d : Addr) : putF "larger" (.ref d) (hF h d1 d2 d3) = hF h d1 d2 d := by
  unfold hF
  repeat (first | exact put_here | refine (put_past (by decide +kernel)).trans (congrArg (List.cons _) ?_))
theorem hF_few (h : Sq38.House) (d1 d2 d3 : Addr) : (hF h d1 d2 d3).length < 1000 := by show 11 < 1000; decide
section
variable {σ : L2.St} {H : Hp} {p C CB CG d1 d2 d3 : Addr} {h : Sq38.House} {ta : TE} {K : PySem.W.Frag} {f : Str} {v : V}
theorem val_h (c : Cls K C) (hp : HsAt C H p h d1 d2 d3) (na : NoAttr K C f) (lk : (hF h d1 d2 d3).lookup f = some v) (ha : Val ta σ H (.ref p)) : Val (tFld K ta f) σ H v := by
  obtain ⟨dx, hp⟩ := hp
  exact val_fld ha hp c na lk
end
/-! ### defs, methods, classes as their callers have them; steps in a row -/
structure Cla (P : Program) (w : World) (K : PySem.W.Frag) (mg : Str → Option Value) (base : Heap) (x : Str) (C : Addr) (k : Nat) (ps : List Str) (sp : Sp) (f : Addr) (fd : FuncData) : Prop where
  mkk : Mk K C f
  ok : FnOk P w K mg base CX0 k f fd ps sp
  mgC : mg x = some (.ref C)
  b : Binds K fd ps []
section
variable {D : Ends} {σ : L2.St} {H : Hp} {te : TE} {v : V} {i : Nat} {t2 p q : TS} {b : Bool} {tt : TT}
theorem sq_set (h : Val te σ H v) (r : t2 D (σ.set i (some v)) H) : tSeq (tAsg te (gName i)) t2 D σ H := h _ r
theorem sq_ife (h : Ans tt σ H b) (h1 : b = true → p { D with nx := t2 D } σ H) (h2 : b = false → q { D with nx := t2 D } σ H) : tSeq (tIfS tt p q) t2 D σ H := ans_ite h h1 h2
/-- if ..: return ..  (no else) -/
theorem sq_if (h : Ans tt σ H b) (h1 : b = true → p { D with nx := t2 D } σ H) (h2 : b = false → t2 D σ H) : tSeq (tIfS tt p tNext) t2 D σ H := ans_ite h h1 h2
theorem sq_inc {te : TE} {i : Nat} {x y : Int} {f : Int → Int → Int} (hx : σ[i]? = some (some (.int x))) (h : Val te σ H (.int y)) (r : t2 D (σ.set i (some (.int (f x y)))) H) : tSeq (tAug i te (ipI f)) t2 D σ H := ⟨_, hx, h _ ⟨x, y, rfl, rfl, r⟩⟩
theorem sq_fld {K : PySem.W.Frag} {a C dx : Addr} {ta tv : TE} {y : V} {f : Str} {fs : List (Str × V)} (hv : Val tv σ H y) (ha : Val ta σ H (.ref a)) (ho : H a = some (.ins C dx fs)) (hc : Cls K C) (hn : NoAttr K C f) (hl : fs.length < 1000) (r : t2 D σ (upd H a (.ins C dx (putF f y fs)))) : tSeq (sFld K ta tv f) t2 D σ H :=
  st_fld (D := { D with nx := t2 D }) hv ha ho hc hn hl r
theorem st_retTup {t : TA} {vs : List V} (h : ValA t σ H vs) (hl : vs.length ≤ sizeLine) (r : ∀ p, H p = none → D.rt (.ref p) (upd H p (.tup vs))) : tRet (tTup t) D σ H := h _ ⟨hl, r⟩
theorem st_retLst {t : TA} {vs : List V} (h : ValA t σ H vs) (hl : vs.length ≤ sizeLine) (r : ∀ p, H p = none → D.rt (.ref p) (upd H p (.lst vs))) : tRet (tLst t) D σ H := h _ ⟨hl, r⟩
theorem val_dget {ta tb : TE} {d : Addr} {k : Int} {kvs : List (Key × V)} (ha : Val ta σ H (.ref d)) (hb : Val tb σ H (.int k)) (h : Rd H d (.dK kvs)) (e : valV kvs (Sum.inl k) = some v) : Val (tDGet ta tb) σ H v :=
  fun Q q => ha _ (hb _ ⟨d, v, rfl, .inl ⟨kvs, Sum.inl k, h, rfl, e.symm⟩, q⟩)
theorem val_din {ta tb : TE} {d : Addr} {k : Int} {kvs : List (Key × V)} (hb : Val tb σ H (.int k)) (ha : Val ta σ H (.ref d)) (h : Rd H d (.dK kvs)) : Val (tDIn tb ta) σ H (.bl (valV kvs (Sum.inl k)).isSome) :=
  fun Q q => hb _ (ha _ ⟨d, _, rfl, .inl ⟨kvs, Sum.inl k, h, rfl, rfl⟩, q⟩)
theorem st_dput {ta tb tv : TE} {d : Addr} {k : Int} {kvs : List (Key × V)} (hv : Val tv σ H v) (ha : Val ta σ H (.ref d)) (hb : Val tb σ H (.int k)) (h : H d = some (.dK kvs)) (hl : kvs.length < sizeLine) (r : D.nx σ (upd H d (.dK (putK kvs (Sum.inl k) v)))) : sDPut ta tb tv D σ H :=
  hv _ (ha _ (hb _ ⟨d, _, rfl, DPut.k (k := Sum.inl k) h hl, r⟩))
theorem val_lenD {ta : TE} {d : Addr} {kvs : List (Key × V)} (ha : Val ta σ H (.ref d)) (h : H d = some (.dK kvs)) : Val (tCB (fun xs H Q => ∃ a kvs, xs = [V.ref a] ∧ H a = some (.dK kvs) ∧ Q (.int kvs.length) H) (tCons ta tNil)) σ H (.int kvs.length) :=
  val_cb (va_cons ha va_nil) fun Q q => ⟨d, kvs, rfl, h, q⟩
theorem st_retMake {C : Addr} {sp : Sp} {E : XK} {t : TA} {vs : List V} (h : ValA t σ H vs) (r : ∀ x dx, H x = none → H dx = none → dx ≠ x → sp (.ref x :: (vs ++ [])) (upd (upd H dx (.own x)) x (.ins C dx [])) (fun v H2 => v = .non ∧ D.rt (.ref x) H2) E) : tRet (tMake C sp [] E t) D σ H := h _ r
theorem st_retCall {sp : Sp} {E : XK} {t : TA} {vs : List V} (h : ValA t σ H vs) (r : sp (vs ++ []) H D.rt E) : tRet (tCall sp [] E t) D σ H := h _ r
theorem st_dputCall {ta tb : TE} {sp : Sp} {E : XK} {t : TA} {vs : List V} (h : ValA t σ H vs) (r : sp (vs ++ []) H (fun v H1 => ta σ H1 fun x H2 => tb σ H2 fun y H3 => ∃ a H4, x = .ref a ∧ DPut H3 a y v H4 ∧ D.nx σ H4) E) : sDPut ta tb (tCall sp [] E t) D σ H := h _ r
theorem val_tup {K : PySem.W.Frag} {ta ti : TE} {t : Addr} {j : Int} {xs : List V} (ha : Val ta σ H (.ref t)) (hi : Val ti σ H (.int j)) (h : H t = some (.tup xs)) (e : atI xs j = some v) : Val (tOp (rIxT K) ta ti) σ H v :=
  val_op ha hi fun Q q => ⟨t, xs, j, v, rfl, rfl, SqT.of h, e, q⟩
theorem sq_setCall {sp : Sp} {E : XK} {t : TA} {vs : List V} (h : ValA t σ H vs) (r : sp (vs ++ []) H (fun v H1 => t2 D (σ.set i (some v)) H1) E) : tSeq (tAsg (tCall sp [] E t) (gName i)) t2 D σ H := h _ r
/-- a method that changes nothing -/
theorem val_meth {C p dx : Addr} {m : Str} {sp : Sp} {E : XK} {ta : TE} {t : TA} {fs : List (Str × V)} {vs : List V} (ha : Val ta σ H (.ref p)) (hp : H p = some (.ins C dx fs)) (hn : fs.lookup m = none) (ht : ValA t σ H vs) (hr : ∀ Q : VK, Q v H → sp (.ref p :: (vs ++ [])) H Q E) : Val (tMeth C m sp [] E ta t) σ H v :=
  fun Q q => ha _ ⟨p, dx, fs, rfl, hp, hn, ht _ (hr Q q)⟩
theorem val_ifx {ta tb : TE} (h : Ans tt σ H b) (h1 : b = true → Val ta σ H v) (h2 : b = false → Val tb σ H v) : Val (tIf tt ta tb) σ H v := fun Q q => by
  refine h _ ?_
  cases b with
  | true => exact iteT (h1 rfl Q q)
  | false => exact iteF (h2 rfl Q q)
theorem few_s {n : Nat} (h : n ≤ 10) : n ≤ sizeLine := Nat.le_trans h (by decide)
end
end Ck

set_option Elab.async false
set_option linter.all false
set_option maxRecDepth 100000
set_option maxHeartbeats 2000000
namespace Ck
open PySem PySem.Spec PyProof.Rows L2 CkL
open Sq38 (Bucket)
abbrev sTimes : Stmt := (top 1)
abbrev sKnown : Stmt := (top 2)
abbrev sNumber : Stmt := (top 3)
abbrev sSumB : Stmt := (top 4)
abbrev sLeast : Stmt := (top 5)
abbrev sGreat : Stmt := (top 6)
abbrev sMay : Stmt := (top 7)
abbrev sAdded : Stmt := (top 8)
/-! the mathematics -/
def tw (x y a c : Int) : Int := max 0 (min y c - max x a)
def kn (b : Bucket) (a c : Int) : Int := if 1 < b.n then tw b.first (b.first + 1) a c + tw b.last (b.last + 1) a c else tw b.first (b.first + 1) a c
theorem tw_isIn (t a c : Nat) : tw t (t + 1) a c = Sq38.isIn t a c := by
  unfold tw Sq38.isIn
  split <;> omega
theorem tw_inside (b : Bucket) (a c : Nat) : tw (b.first + 1) b.last a c = Sq38.inside b a c := by
  unfold tw Sq38.inside
  omega
def nbLo (b : Bucket) (a c : Int) : Int := kn b a c + max 0 (max 0 ((b.n : Int) - 2) - (max 0 ((b.last : Int) - b.first - 1) - tw (b.first + 1) b.last a c))
def nbHi (b : Bucket) (a c : Int) : Int := kn b a c + min (max 0 ((b.n : Int) - 2)) (tw (b.first + 1) b.last a c)
theorem inside_le (b : Bucket) (a c : Nat) : Sq38.inside b a c ≤ b.last - b.first - 1 := by
  unfold Sq38.inside
  omega
theorem nb_counts (b : Bucket) (h : 1 ≤ b.n) (a c : Nat) : nbLo b a c = (Sq38.counts b a c).1 ∧ nbHi b a c = (Sq38.counts b a c).2 := by
  have hi := inside_le b a c
  unfold nbLo nbHi kn Sq38.counts
  rw [tw_isIn, tw_isIn, tw_inside]
  generalize Sq38.inside b a c = i at hi ⊢
  by_cases e : b.n = 1
  · rw [if_pos e, if_neg (by omega)]
    dsimp only
    omega
  · rw [if_neg e, if_pos (by omega)]
    dsimp only
    omega
/-! promises -/
def spTimes : Sp := fun vs H Q _ => ∃ x y a c : Int, vs = [.int x, .int y, .int a, .int c] ∧ Q (.int (tw x y a c)) H
def spKnown (CB : Addr) : Sp := fun vs H Q _ => ∃ (p : Addr) (b : Bucket) (a c : Int), vs = [.ref p, .int a, .int c] ∧ BkAt CB H p b ∧ Q (.int (kn b a c)) H
def spNumber (CB : Addr) : Sp := fun vs H Q _ => ∃ (p : Addr) (b : Bucket) (a c : Int), vs = [.ref p, .int a, .int c] ∧ BkAt CB H p b ∧ ∀ t, H t = none → Q (.ref t) (upd H t (.tup [.int (nbLo b a c), .int (nbHi b a c)]))
def spLeast (CB : Addr) : Sp := fun vs H Q _ => ∃ (p : Addr) (b : Bucket) (k : Nat), vs = [.ref p, .int k] ∧ BkAt CB H p b ∧ k ≤ b.n ∧ b.n ≤ 2000001 ∧ Q (.int (loF b k)) H
def spGreat (CB : Addr) : Sp := fun vs H Q _ => ∃ (p : Addr) (b : Bucket) (k : Nat), vs = [.ref p, .int k] ∧ BkAt CB H p b ∧ k ≤ b.n ∧ b.n ≤ 2000001 ∧ Q (.int (hiF b k)) H
def spSumB (CB : Addr) : Sp := fun vs H Q _ => ∃ (p : Addr) (b : Bucket) (a c : Nat), vs = [.ref p, .int a, .int c] ∧ BkAt CB H p b ∧ OkB b ∧ Span b ∧ b.n ≤ 2000001 ∧ ∀ (H' : Hp) (t : Addr), Same H H' → H t = none → H' t = some (.tup [.int (Sq38.sums b a c).1, .int (Sq38.sums b a c).2]) → Q (.ref t) H'
def spMay (CB : Addr) : Sp := fun vs H Q _ => ∃ (p : Addr) (b : Bucket) (a c : Nat), vs = [.ref p, .int a, .int c] ∧ BkAt CB H p b ∧ 1 ≤ b.n ∧ ∀ H' : Hp, Same H H' → Q (.bl (decide (0 < (Sq38.counts b a c).2))) H'
/-- a list of tuples of two numbers -/
inductive RepT (H : Hp) : List V → List (Nat × Nat) → Prop where
  | nil : RepT H [] []
  | cons {t : Addr} {z : Nat × Nat} {vs : List V} {l : List (Nat × Nat)} (h : H t = some (.tup [.int z.1, .int z.2])) (r : RepT H vs l) : RepT H (.ref t :: vs) (z :: l)
theorem RepT.same {H H' : Hp} (s : Same H H') : ∀ {vs : List V} {l : List (Nat × Nat)}, RepT H vs l → RepT H' vs l
  | _, _, .nil => .nil
  | _, _, .cons h r => .cons (s _ _ h) (r.same s)
theorem RepT.len {H : Hp} : ∀ {vs : List V} {l : List (Nat × Nat)}, RepT H vs l → vs.length = l.length
  | _, _, .nil => rfl
  | _, _, .cons _ r => congrArg (· + 1) r.len
theorem RepT.at {H : Hp} : ∀ {vs : List V} {l : List (Nat × Nat)}, RepT H vs l → ∀ {i : Nat} {v : V}, vs[i]? = some v → ∃ t z, v = .ref t ∧ l[i]? = some z ∧ H t = some (.tup [.int z.1, .int z.2])
  | _, _, .nil, _, _, e => by cases e
  | _, _, .cons (t := t) (z := z) h _, 0, _, e => ⟨t, z, (Option.some.inj e).symm, rfl, h⟩
  | _, _, .cons _ r, i + 1, _, e => r.at (i := i) e
theorem RepT.snoc {H : Hp} {t : Addr} {z : Nat × Nat} (h : H t = some (.tup [.int z.1, .int z.2])) : ∀ {vs : List V} {l : List (Nat × Nat)}, RepT H vs l → RepT H (vs ++ [.ref t]) (l ++ [z])
  | _, _, .nil => .cons h .nil
  | _, _, .cons h' r => .cons h' (r.snoc h)
/-- a list changed elsewhere -/
theorem RepT.off {H : Hp} {D : Addr} {o : HO} {us : List V} (hD : H D = some (.lst us)) : ∀ {vs : List V} {l : List (Nat × Nat)}, RepT H vs l → RepT (upd H D o) vs l
  | _, _, .nil => .nil
  | _, _, .cons h r => .cons (by rw [upd_ne (ne_of h hD (by intro z; cases z))]; exact h) (r.off hD)
def col1 (zs : List (Nat × Nat)) : Int := (zs.map fun z => (z.1 : Int)).sum
def col2 (zs : List (Nat × Nat)) : Int := (zs.map fun z => (z.2 : Int)).sum
def spAdded : Sp := fun vs H Q _ => ∃ (p : Addr) (us : List V) (zs : List (Nat × Nat)), vs = [.ref p] ∧ H p = some (.lst us) ∧ RepT H us zs ∧ us.length ≤ 1200 ∧ ∀ (H' : Hp) (r : Addr), Same H H' → H r = none → H' r = some (.lst [.int (col1 zs), .int (col2 zs)]) → Q (.ref r) H'
section
variable {P : Program} {w : World} {K : PySem.W.Frag} {mg : Str → Option Value} {base : Heap} {C CB CG : Addr} {tk : Nat → Tok}
theorem scTimes : FnScope ["begins", "ends", "a", "c"] ["begins", "ends", "a", "c"] (defScope sTimes) := ⟨rfl, rfl, rfl, by decide +kernel, rfl, by decide +kernel, by decide +kernel⟩
theorem ok_times {f : Addr} {fd : FuncData} (F : Fun K "times_within" "times_within" sTimes f fd) (T : Txt K mg C CB CG tk) : FnOk P w K mg base CX0 1 f fd ["begins", "ends", "a", "c"] spTimes := by
  refine F.ok scTimes (fun vs H Q E h => ?_) (fun cdv A outer s H vs Q E hr h => ?_)
  · obtain ⟨x, y, a, c, rfl, _⟩ := h
    rfl
  · obtain ⟨x, y, a, c, rfl, q⟩ := h
    refine ⟨_, (pss_one (ps_ret (pe_callB (call_max2 rfl) (by rfl) T.b_max boot_max (pa_cons pe_int (pa_cons (pe_op op_sub (pe_callB (call_min2 rfl) (by rfl) T.b_min boot_min (pa_cons (pv 1) (pa_cons (pv 3) pa_nil))) (pe_callB (call_max2 rfl) (by rfl) T.b_max boot_max (pa_cons (pv 0) (pa_cons (pv 2) pa_nil)))) pa_nil))))), ?_⟩
    refine st_ret ?_ q
    exact val_max val_c (val_i (val_min (val_var rfl) (val_var rfl)) (val_max (val_var rfl) (val_var rfl)))
theorem scKnown : FnScope ["bucket", "a", "c", "known"] ["bucket", "a", "c"] (defScope sKnown) := ⟨rfl, rfl, rfl, by decide +kernel, rfl, by decide +kernel, by decide +kernel⟩
theorem ok_known {f : Addr} {fd : FuncData} {f1 : Addr} {fd1 : FuncData} (F : Fun K "known_within" "known_within" sKnown f fd) (T : Txt K mg C CB CG tk) (G_times_within : Def P w K mg base "times_within" 1 ["begins", "ends", "a", "c"] spTimes f1 fd1) :
    FnOk P w K mg base CX0 2 f fd ["bucket", "a", "c"] (spKnown CB) := by
  refine F.ok scKnown (fun vs H Q E h => ?_) (fun cdv A outer s H vs Q E hr_times_within h => ?_)
  · obtain ⟨p, b, a, c, rfl, _⟩ := h
    rfl
  · obtain ⟨p, b, a, c, rfl, hb, q⟩ := h
    refine ⟨_, (pss_cons (ps_set (i := 3) scKnown.nd rfl (Or.inl rfl) (pe_call G_times_within.ok hr_times_within rfl G_times_within.mgf G_times_within.kp G_times_within.b .nil pass0 (pa_cons (pe_fld (pv 0) rfl) (pa_cons (pe_op op_add (pe_fld (pv 0) rfl) pe_int) (pa_cons (pv 1) (pa_cons (pv 2) pa_nil)))))) (pss_cons (ps_if (pt_cmpR op_gt (pe_fld (pv 0) rfl) pe_int (nomark _)) (pss_one (ps_aug (i := 3) scKnown.nd rfl (Or.inl rfl) (pe_call G_times_within.ok hr_times_within rfl G_times_within.mgf G_times_within.kp G_times_within.b .nil pass0 (pa_cons (pe_fld (pv 0) rfl) (pa_cons (pe_op op_add (pe_fld (pv 0) rfl) pe_int) (pa_cons (pv 1) (pa_cons (pv 2) pa_nil))))) ip_add)) pss_nil) (pss_one (ps_ret (pv 3))))), ?_⟩
    refine sq_set (v := .int (tw b.first (b.first + 1) a c)) (val_call (va_cons (val_bf T hb (val_var rfl)) (va_cons (val_i (val_bf T hb (val_var rfl)) val_c) (va_cons (val_var rfl) (va_cons (val_var rfl) va_nil)))) fun Q q => ⟨_, _, _, _, rfl, q⟩) ?_
    refine sq_if (ans_test (val_i (val_bn T hb (val_var rfl)) val_c)) (fun e => ?_) (fun e => ?_)
    · refine st_inc rfl (val_call (va_cons (val_bl T hb (val_var rfl)) (va_cons (val_i (val_bl T hb (val_var rfl)) val_c) (va_cons (val_var rfl) (va_cons (val_var rfl) va_nil)))) fun Q q => ⟨_, _, _, _, rfl, q⟩) ?_
      refine st_ret (val_var rfl) ?_
      have e' := of_decide_eq_true e
      have k : kn b a c = tw b.first (b.first + 1) a c + tw b.last (b.last + 1) a c := if_pos (by omega)
      rw [k] at q
      exact q
    · refine st_ret (val_var rfl) ?_
      have e' := of_decide_eq_false e
      have k : kn b a c = tw b.first (b.first + 1) a c := if_neg (by omega)
      rw [k] at q
      exact q
theorem scNumber : FnScope ["bucket", "a", "c", "known", "others", "between", "inside", "outside"] ["bucket", "a", "c"] (defScope sNumber) := ⟨rfl, rfl, rfl, by decide +kernel, rfl, by decide +kernel, by decide +kernel⟩
theorem ok_number {f : Addr} {fd : FuncData} {f1 f2 : Addr} {fd1 fd2 : FuncData} (F : Fun K "number_bounds" "number_bounds" sNumber f fd) (T : Txt K mg C CB CG tk) (G_times_within : Def P w K mg base "times_within" 1 ["begins", "ends", "a", "c"] spTimes f1 fd1)
    (G_known_within : Def P w K mg base "known_within" 2 ["bucket", "a", "c"] (spKnown CB) f2 fd2) : FnOk P w K mg base CX0 3 f fd ["bucket", "a", "c"] (spNumber CB) := by
  refine F.ok scNumber (fun vs H Q E h => ?_) (fun cdv A outer s H vs Q E hr_known_within h => ?_)
  · obtain ⟨p, b, a, c, rfl, _⟩ := h
    rfl
  · obtain ⟨p, b, a, c, rfl, hb, q⟩ := h
    have hr_times_within : Room 1 _ := hr_known_within.mono (by decide)
    refine ⟨_, (pss_cons (ps_set (i := 3) scNumber.nd rfl (Or.inl rfl) (pe_call G_known_within.ok hr_known_within rfl G_known_within.mgf G_known_within.kp G_known_within.b .nil pass0 (pa_cons (pv 0) (pa_cons (pv 1) (pa_cons (pv 2) pa_nil))))) (pss_cons (ps_set (i := 4) scNumber.nd rfl (Or.inl rfl) (pe_callB (call_max2 rfl) (by rfl) T.b_max boot_max (pa_cons pe_int (pa_cons (pe_op op_sub (pe_fld (pv 0) rfl) pe_int) pa_nil)))) (pss_cons (ps_set (i := 5) scNumber.nd rfl (Or.inl rfl) (pe_callB (call_max2 rfl) (by rfl) T.b_max boot_max (pa_cons pe_int (pa_cons (pe_op op_sub (pe_op op_sub (pe_fld (pv 0) rfl) (pe_fld (pv 0) rfl)) pe_int) pa_nil)))) (pss_cons (ps_set (i := 6) scNumber.nd rfl (Or.inl rfl) (pe_call G_times_within.ok hr_times_within rfl G_times_within.mgf G_times_within.kp G_times_within.b .nil pass0 (pa_cons (pe_op op_add (pe_fld (pv 0) rfl) pe_int) (pa_cons (pe_fld (pv 0) rfl) (pa_cons (pv 1) (pa_cons (pv 2) pa_nil)))))) (pss_cons (ps_set (i := 7) scNumber.nd rfl (Or.inl rfl) (pe_op op_sub (pv 5) (pv 6))) (pss_one (ps_ret (pe_tup (pa_cons (pe_op op_add (pv 3) (pe_callB (call_max2 rfl) (by rfl) T.b_max boot_max (pa_cons pe_int (pa_cons (pe_op op_sub (pv 4) (pv 7)) pa_nil)))) (pa_cons (pe_op op_add (pv 3) (pe_callB (call_min2 rfl) (by rfl) T.b_min boot_min (pa_cons (pv 4) (pa_cons (pv 6) pa_nil)))) pa_nil)))))))))), ?_⟩
    refine sq_set (val_call (va_cons (val_var rfl) (va_cons (val_var rfl) (va_cons (val_var rfl) va_nil))) fun Q q => ⟨_, _, _, _, rfl, hb, q⟩) ?_
    refine sq_set (val_max val_c (val_i (val_bn T hb (val_var rfl)) val_c)) ?_
    refine sq_set (val_max val_c (val_i (val_i (val_bl T hb (val_var rfl)) (val_bf T hb (val_var rfl))) val_c)) ?_
    refine sq_set (val_call (va_cons (val_i (val_bf T hb (val_var rfl)) val_c) (va_cons (val_bl T hb (val_var rfl)) (va_cons (val_var rfl) (va_cons (val_var rfl) va_nil)))) fun Q q => ⟨_, _, _, _, rfl, q⟩) ?_
    refine sq_set (val_i (val_var rfl) (val_var rfl)) ?_
    exact st_retTup (va_cons (val_i (val_var rfl) (val_max val_c (val_i (val_var rfl) (val_var rfl)))) (va_cons (val_i (val_var rfl) (val_min (val_var rfl) (val_var rfl))) va_nil)) (by show 2 ≤ sizeLine; decide) q
theorem scLeast : FnScope ["bucket", "within", "others"] ["bucket", "within"] (defScope sLeast) := ⟨rfl, rfl, rfl, by decide +kernel, rfl, by decide +kernel, by decide +kernel⟩
theorem ok_least {f : Addr} {fd : FuncData} (F : Fun K "least_sum" "least_sum" sLeast f fd) (T : Txt K mg C CB CG tk) : FnOk P w K mg base CX0 1 f fd ["bucket", "within"] (spLeast CB) := by
  refine F.ok scLeast (fun vs H Q E h => ?_) (fun cdv A outer s H vs Q E hr h => ?_)
  · obtain ⟨p, b, k, rfl, _⟩ := h
    rfl
  · obtain ⟨p, b, k, rfl, hb, hk, hn, q⟩ := h
    refine ⟨_, (pss_cons (ps_set (i := 2) scLeast.nd rfl (Or.inl rfl) (pe_op op_sub (pe_fld (pv 0) rfl) (pv 1))) (pss_one (ps_ret (pe_callB (call_max2 rfl) (by rfl) T.b_max boot_max (pa_cons (pe_op op_mul (pv 1) (pe_fld (pv 0) rfl)) (pa_cons (pe_op op_sub (pe_fld (pv 0) rfl) (pe_op op_mul (pv 2) (pe_fld (pv 0) rfl))) pa_nil)))))), ?_⟩
    refine sq_set (val_i (val_bn T hb (val_var rfl)) (val_var rfl)) ?_
    exact st_ret (val_max (val_ic (val_var rfl) (val_be T hb (val_var rfl)) (.inl ⟨by omega, by omega⟩)) (val_i (val_bt T hb (val_var rfl)) (val_ic (val_var rfl) (val_bg T hb (val_var rfl)) (.inl ⟨by omega, by omega⟩)))) q
theorem scGreat : FnScope ["bucket", "within", "others"] ["bucket", "within"] (defScope sGreat) := ⟨rfl, rfl, rfl, by decide +kernel, rfl, by decide +kernel, by decide +kernel⟩
theorem ok_great {f : Addr} {fd : FuncData} (F : Fun K "greatest_sum" "greatest_sum" sGreat f fd) (T : Txt K mg C CB CG tk) : FnOk P w K mg base CX0 1 f fd ["bucket", "within"] (spGreat CB) := by
  refine F.ok scGreat (fun vs H Q E h => ?_) (fun cdv A outer s H vs Q E hr h => ?_)
  · obtain ⟨p, b, k, rfl, _⟩ := h
    rfl
  · obtain ⟨p, b, k, rfl, hb, hk, hn, q⟩ := h
    refine ⟨_, (pss_cons (ps_set (i := 2) scGreat.nd rfl (Or.inl rfl) (pe_op op_sub (pe_fld (pv 0) rfl) (pv 1))) (pss_one (ps_ret (pe_callB (call_min2 rfl) (by rfl) T.b_min boot_min (pa_cons (pe_op op_mul (pv 1) (pe_fld (pv 0) rfl)) (pa_cons (pe_op op_sub (pe_fld (pv 0) rfl) (pe_op op_mul (pv 2) (pe_fld (pv 0) rfl))) pa_nil)))))), ?_⟩
    refine sq_set (val_i (val_bn T hb (val_var rfl)) (val_var rfl)) ?_
    exact st_ret (val_min (val_ic (val_var rfl) (val_bg T hb (val_var rfl)) (.inl ⟨by omega, by omega⟩)) (val_i (val_bt T hb (val_var rfl)) (val_ic (val_var rfl) (val_be T hb (val_var rfl)) (.inl ⟨by omega, by omega⟩)))) q
theorem scSumB : FnScope ["bucket", "a", "c", "few_and_many"] ["bucket", "a", "c"] (defScope sSumB) := ⟨rfl, rfl, rfl, by decide +kernel, rfl, by decide +kernel, by decide +kernel⟩
theorem ok_sumb {f : Addr} {fd : FuncData} {f1 f2 f3 : Addr} {fd1 fd2 fd3 : FuncData} (F : Fun K "sum_bounds" "sum_bounds" sSumB f fd) (T : Txt K mg C CB CG tk) (G_number_bounds : Def P w K mg base "number_bounds" 3 ["bucket", "a", "c"] (spNumber CB) f1 fd1)
    (G_least_sum : Def P w K mg base "least_sum" 1 ["bucket", "within"] (spLeast CB) f2 fd2) (G_greatest_sum : Def P w K mg base "greatest_sum" 1 ["bucket", "within"] (spGreat CB) f3 fd3) : FnOk P w K mg base CX0 4 f fd ["bucket", "a", "c"] (spSumB CB) := by
  refine F.ok scSumB (fun vs H Q E h => ?_) (fun cdv A outer s H vs Q E hr_number_bounds h => ?_)
  · obtain ⟨p, b, a, c, rfl, _⟩ := h
    rfl
  · obtain ⟨p, b, a, c, rfl, hb, ok, sp, hn, q⟩ := h
    have hr_least_sum : Room 1 _ := hr_number_bounds.mono (by decide)
    have hr_greatest_sum : Room 1 _ := hr_number_bounds.mono (by decide)
    obtain ⟨e1, e2⟩ := nb_counts b ok.n1 a c
    obtain ⟨c1, c2⟩ := counts_le ok sp a c
    obtain ⟨s1, s2⟩ := sums_eq ok sp a c
    refine ⟨_, (pss_cons (ps_set (i := 3) scSumB.nd rfl (Or.inl rfl) (pe_call G_number_bounds.ok hr_number_bounds rfl G_number_bounds.mgf G_number_bounds.kp G_number_bounds.b .nil pass0 (pa_cons (pv 0) (pa_cons (pv 1) (pa_cons (pv 2) pa_nil))))) (pss_one (ps_ret (pe_tup (pa_cons (pe_call G_least_sum.ok hr_least_sum rfl G_least_sum.mgf G_least_sum.kp G_least_sum.b .nil pass0 (pa_cons (pv 0) (pa_cons (pe_ix ix_tup (pv 3) pe_int (fun _ _ => rfl)) pa_nil))) (pa_cons (pe_call G_greatest_sum.ok hr_greatest_sum rfl G_greatest_sum.mgf G_greatest_sum.kp G_greatest_sum.b .nil pass0 (pa_cons (pv 0) (pa_cons (pe_ix ix_tup (pv 3) pe_int (fun _ _ => rfl)) pa_nil))) pa_nil)))))), ?_⟩
    refine sq_setCall (va_cons (val_var rfl) (va_cons (val_var rfl) (va_cons (val_var rfl) va_nil))) ⟨p, b, a, c, rfl, hb, fun t ht => ?_⟩
    rw [e1, e2]
    have hb' := (keeps_new (o := .tup [.int ((Sq38.counts b a c).1 : Nat), .int ((Sq38.counts b a c).2 : Nat)]) ht).bk hb
    refine st_retTup (va_cons (val_call (va_cons (val_var rfl) (va_cons (val_tup (val_var rfl) val_c upd_same rfl) va_nil)) fun Q q => ⟨p, b, (Sq38.counts b a c).1, rfl, hb', by omega, hn, q⟩)
      (va_cons (val_call (va_cons (val_var rfl) (va_cons (val_tup (val_var rfl) val_c upd_same rfl) va_nil)) fun Q q => ⟨p, b, (Sq38.counts b a c).2, rfl, hb', by omega, hn, q⟩) va_nil)) (few_s (by show 2 ≤ 10; decide)) fun r hr => ?_
    refine q _ r ((same_new ht).trans (same_new hr)) ((same_new ht).free hr) ?_
    rw [upd_same, s1, s2]
theorem st_retCallIx {D : Ends} {σ : L2.St} {H : Hp} {sp : Sp} {E : XK} {t : TA} {vs : List V} {u v : V} {r2 : R2} (h : ValA t σ H vs) (r : sp (vs ++ []) H (fun x H1 => rIxT K x u H1 (fun y H2 => r2 y v H2 D.rt)) E) : tRet (tOp r2 (tOp (rIxT K) (tCall sp [] E t) (tC u)) (tC v)) D σ H := h _ r
theorem scMay : FnScope ["bucket", "a", "c"] ["bucket", "a", "c"] (defScope sMay) := ⟨rfl, rfl, rfl, by decide +kernel, rfl, by decide +kernel, by decide +kernel⟩
theorem ok_may {f : Addr} {fd : FuncData} {f1 : Addr} {fd1 : FuncData} (F : Fun K "may_lie_within" "may_lie_within" sMay f fd) (T : Txt K mg C CB CG tk) (G_number_bounds : Def P w K mg base "number_bounds" 3 ["bucket", "a", "c"] (spNumber CB) f1 fd1) : FnOk P w K mg base CX0 4 f fd ["bucket", "a", "c"] (spMay CB) := by
  refine F.ok scMay (fun vs H Q E h => ?_) (fun cdv A outer s H vs Q E hr_number_bounds h => ?_)
  · obtain ⟨p, b, a, c, rfl, _⟩ := h
    rfl
  · obtain ⟨p, b, a, c, rfl, hb, n1, q⟩ := h
    obtain ⟨e1, e2⟩ := nb_counts b n1 a c
    refine ⟨_, (pss_one (ps_ret (pe_cmpR op_gt (pe_ix ix_tup (pe_call G_number_bounds.ok hr_number_bounds rfl G_number_bounds.mgf G_number_bounds.kp G_number_bounds.b .nil pass0 (pa_cons (pv 0) (pa_cons (pv 1) (pa_cons (pv 2) pa_nil)))) pe_int (fun _ _ => rfl)) pe_int (nomark _)))), ?_⟩
    refine st_retCallIx (va_cons (val_var rfl) (va_cons (val_var rfl) (va_cons (val_var rfl) va_nil))) ⟨p, b, a, c, rfl, hb, fun t ht => ?_⟩
    rw [e1, e2]
    refine ⟨t, _, 1, .int ((Sq38.counts b a c).2 : Nat), rfl, rfl, SqT.of upd_same, rfl, ⟨_, 0, rfl, rfl, ?_⟩⟩
    have e : decide ((0 : Int) < ((Sq38.counts b a c).2 : Nat)) = decide (0 < (Sq38.counts b a c).2) := by
      by_cases z : 0 < (Sq38.counts b a c).2
      · rw [decide_eq_true z, decide_eq_true (by omega)]
      · rw [decide_eq_false z, decide_eq_false (by omega)]
    show Q (V.bl (decide ((0 : Int) < ((Sq38.counts b a c).2 : Nat)))) _
    rw [e]
    exact q _ (same_new ht)
theorem lc_yes {σ : L2.St} {H : Hp} {A B : Hp → Prop} (h : A H) : tYes σ H (fun b H3 => if b = true then A H3 else B H3) := by
  show (if true = true then A H else B H)
  rw [if_pos rfl]
  exact h
theorem st_retTwo {D : Ends} {σ : L2.St} {H : Hp} {r : List V → Hp → VK → Prop} {t1 t2 : TE} (h : t1 σ H (fun x H1 => r [x] H1 (fun v H2 => t2 σ H2 (fun y H3 => r [y] H3 (fun u H4 => [v, u].length ≤ sizeLine ∧ ∀ p, H4 p = none → D.rt (.ref p) (upd H4 p (.lst [v, u]))))))) : tRet (tLst (tCons (tCB r (tCons t1 tNil)) (tCons (tCB r (tCons t2 tNil)) tNil))) D σ H := h
/-- a column of a list of tuples, as a list -/
theorem rd_col {σ : L2.St} {H : Hp} {a : Addr} {us : List V} {zs : List (Nat × Nat)} {x1 : Option V} (g : Nat × Nat → Nat) {j : Int} {Q : VK} (hg : ∀ z : Nat × Nat, atI [V.int z.1, V.int z.2] j = some (V.int (g z))) (e : σ = [some (.ref a), x1]) (ha : H a = some (.lst us)) (R : RepT H us zs) (hl : us.length ≤ 1200)
    (q : ∀ (D : Addr) (H' : Hp), Same H H' → H' D = some (.lst ((zs.map fun z => (g z : Int)).map V.int)) → Q (.ref D) H') : tLc (iList K (tVar 0)) (gName 1) tYes (tOp (rIxT K) (tVar 1) (tC (.int j))) [1] σ H Q := by
  subst e
  have hv : Val (tVar 0) [some (V.ref a), x1] H (.ref a) := val_var rfl
  refine hv (fun x H1 => tLc (iList K (tC x)) (gName 1) tYes (tOp (rIxT K) (tVar 1) (tC (.int j))) [1] [some (V.ref a), x1] H1 Q) ?_
  refine ⟨a, rfl, ⟨us, SqL.of ha⟩, fun D hD => lc_list (K := K) (a := a) (xs := us) (fun i H' => Same H H' ∧ H' D = some (.lst (((zs.take i).map fun z => (g z : Int)).map V.int))) ⟨same_new hD, upd_same⟩ (fun i H' _ p => SqL.of (p.1 _ _ ha)) (fun i x H' hi p => ?_) (fun H' p => ?_)⟩
  · obtain ⟨s2, hD'⟩ := p
    obtain ⟨t, z, rfl, hz, ht⟩ := R.at hi
    have li : i < us.length := (List.getElem?_eq_some_iff.mp hi).1
    refine ⟨rfl, lc_yes (val_tup (val_var rfl) val_c (s2 _ _ ht) (hg z) _ ⟨_, hD', ?_, same_upd s2 hD, ?_⟩)⟩
    · rw [List.length_map, List.length_map, List.length_take]
      have : (1200 : Nat) < sizeLine := by decide
      omega
    · rw [upd_same, take_more hz, List.map_append, List.map_append]
      rfl
  · obtain ⟨s2, hD'⟩ := p
    refine q D H' s2 ?_
    rw [R.len, List.take_length] at hD'
    exact hD'
theorem scAdded : FnScope ["pairs", "pair"] ["pairs"] (defScope sAdded) := ⟨rfl, rfl, rfl, by decide +kernel, rfl, by decide +kernel, by decide +kernel⟩
theorem ok_added {f : Addr} {fd : FuncData} (F : Fun K "added_up" "added_up" sAdded f fd) (T : Txt K mg C CB CG tk) : FnOk P w K mg base CX0 1 f fd ["pairs"] spAdded := by
  refine F.ok scAdded (fun vs H Q E h => ?_) (fun cdv A outer s H vs Q E hr h => ?_)
  · obtain ⟨p, us, zs, rfl, _⟩ := h
    rfl
  · obtain ⟨p, us, zs, rfl, hp, R, hl, q⟩ := h
    refine ⟨_, (pss_one (ps_ret (pe_lst (pa_cons (pe_callB (cr_sum rfl) (by rfl) T.b_sum (by decide +kernel) (pa_cons (pe_lc (own := [("pair", 1)]) (g := gName 1) (tt := tYes) rfl scAdded.nd (pi_list (pv 0)) (blkOk_by (own := [("pair", 1)]) (N := ["pairs", "pair"]) (sc := defScope sAdded) (by decide +kernel)) (fun _ _ _ _ _ => (pg_name (i := 1) scAdded.nd rfl (Or.inl rfl))) (fun _ _ _ _ _ => pts_nil) (fun _ _ _ _ _ => (pe_ix (r := rIxT K) ix_tup (pv 1) pe_int (fun _ _ => rfl)))) pa_nil)) (pa_cons (pe_callB (cr_sum rfl) (by rfl) T.b_sum (by decide +kernel) (pa_cons (pe_lc (own := [("pair", 1)]) (g := gName 1) (tt := tYes) rfl scAdded.nd (pi_list (pv 0)) (blkOk_by (own := [("pair", 1)]) (N := ["pairs", "pair"]) (sc := defScope sAdded) (by decide +kernel)) (fun _ _ _ _ _ => (pg_name (i := 1) scAdded.nd rfl (Or.inl rfl))) (fun _ _ _ _ _ => pts_nil) (fun _ _ _ _ _ => (pe_ix (r := rIxT K) ix_tup (pv 1) pe_int (fun _ _ => rfl)))) pa_nil)) pa_nil))))), ?_⟩
    refine st_retTwo ?_
    refine rd_col (j := 0) (fun z => z.1) (fun _ => rfl) rfl hp R hl fun D1 H1 s1 h1 => ⟨D1, _, rfl, SqL.of h1, ?_⟩
    refine rd_col (j := 1) (fun z => z.2) (fun _ => rfl) rfl (s1 _ _ hp) (R.same s1) hl fun D2 H2 s2 h2 => ⟨D2, _, rfl, SqL.of h2, few_s (by show 2 ≤ 10; decide), fun r hr => ?_⟩
    exact q _ r ((s1.trans s2).trans (same_new hr)) ((s1.trans s2).free hr) upd_same
end
end Ck

set_option Elab.async false
set_option linter.all false
set_option maxRecDepth 100000
set_option maxHeartbeats 400000
namespace Ck
open PySem PySem.Spec PyProof.Rows L2 CkL
open Sq38 (Bucket)
abbrev sBInit : Stmt := (inClass (top 10) 0)
abbrev sOne : Stmt := (top 11)
abbrev sJoined : Stmt := (top 12)
abbrev sBegin : Stmt := (top 14)
abbrev sNums : Stmt := (top 13)
abbrev sPut : Stmt := (top 15)
def bL (x1 x2 x3 x4 x5 x6 : V) : List (Str × V) := [("number", x1), ("first", x2), ("last", x3), ("total", x4), ("least", x5), ("greatest", x6)]
def spBInit (CB : Addr) : Sp := fun vs H Q _ => ∃ (p dx : Addr) (x1 x2 x3 x4 x5 x6 : V), vs = [.ref p, x1, x2, x3, x4, x5, x6] ∧ H p = some (.ins CB dx []) ∧
  ∀ H' : Hp, H' p = some (.ins CB dx (bL x1 x2 x3 x4 x5 x6)) → (∀ b, b ≠ p → H' b = H b) → Q .non H'
/-- a new bucket -/
def spOne (CB : Addr) : Sp := fun vs H Q _ => ∃ t v : Nat, vs = [.int t, .int v] ∧ ∀ (H' : Hp) (a : Addr), Same H H' → H a = none → BkAt CB H' a (Sq38.one (t, v)) → Q (.ref a) H'
def spJoined (CB : Addr) : Sp := fun vs H Q _ => ∃ (p q : Addr) (x y : Bucket), vs = [.ref p, .ref q] ∧ BkAt CB H p x ∧ BkAt CB H q y ∧ ∀ (H' : Hp) (a : Addr), Same H H' → H a = none → BkAt CB H' a (x.with_ y) → Q (.ref a) H'
def spNums (CB : Addr) : Sp := fun vs H Q _ => ∃ (p : Addr) (b : Bucket), vs = [.ref p] ∧ BkAt CB H p b ∧ ∀ r, H r = none → Q (.ref r) (upd H r (.lst [.int b.n, .int b.first, .int b.last, .int b.sum, .int b.least, .int b.most]))
def spBegin : Sp := fun vs H Q _ => ∃ (t : Int) (w : Nat), vs = [.int t, .int w] ∧ 0 < w ∧ w ≤ 1000000 ∧ Q (.int (Sq38.down w t.toNat : Nat)) H
def spPut (CB : Addr) : Sp := fun vs H Q _ => ∃ (d1 d2 : Addr) (e w : Nat) (fin co : D), vs = [.ref d1, .ref d2, .int e, .int w] ∧ d1 ≠ d2 ∧ DictAt CB H d1 fin ∧ DictAt CB H d2 co ∧ ND fin ∧ ND co ∧ 0 < w ∧ w ≤ 1000000 ∧ fin.length + co.length ≤ 1200 ∧
  ∀ (H' : Hp) (d3 : Addr), H d3 = none → DictAt CB H' d3 (stay e fin) → DictAt CB H' d2 (into w e fin co) → (∀ b o, H b = some o → b ≠ d2 → H' b = some o) → Q (.ref d3) H'
section
variable {P : Program} {w : World} {K : PySem.W.Frag} {mg : Str → Option Value} {base : Heap} {C CB CG : Addr} {tk : Nat → Tok}
theorem scBInit : FnScope ["self", "number", "first", "last", "total", "least", "greatest"] ["self", "number", "first", "last", "total", "least", "greatest"] (defScope sBInit) := ⟨rfl, rfl, rfl, by decide +kernel, rfl, by decide +kernel, by decide +kernel⟩
theorem few_put {f : Str} {v : V} {l : List (Str × V)} {n : Nat} (h : l.length ≤ n) : (putF f v l).length ≤ n + 1 := Nat.le_trans (length_putF f v l) (Nat.add_le_add_right h 1)
theorem few_k {l : List (Str × V)} {n : Nat} (h : l.length ≤ n) (hn : n < 1000) : l.length < 1000 := Nat.lt_of_le_of_lt h hn
theorem ok_binit {f : Addr} {fd : FuncData} (F : Fun K "__init__" "Bucket.__init__" sBInit f fd) (T : Txt K mg C CB CG tk) : FnOk P w K mg base CX0 1 f fd ["self", "number", "first", "last", "total", "least", "greatest"] (spBInit CB) := by
  refine F.ok scBInit (fun vs H Q E h => ?_) (fun cdv A outer s H vs Q E hr h => ?_)
  · obtain ⟨p, dx, x1, x2, x3, x4, x5, x6, rfl, _⟩ := h
    rfl
  · obtain ⟨p, dx, x1, x2, x3, x4, x5, x6, rfl, hp, q⟩ := h
    refine ⟨_, (pss_cons (ps_fld (pv 0) (pv 1) rfl) (pss_cons (ps_fld (pv 0) (pv 2) rfl) (pss_cons (ps_fld (pv 0) (pv 3) rfl) (pss_cons (ps_fld (pv 0) (pv 4) rfl) (pss_cons (ps_fld (pv 0) (pv 5) rfl) (pss_one (ps_fld (pv 0) (pv 6) rfl))))))), ?_⟩
    have l0 : ([] : List (Str × V)).length ≤ 0 := Nat.le_refl _
    refine sq_fld (val_var rfl) (val_var rfl) hp T.clB T.nN (few_k l0 (by decide)) ?_
    refine sq_fld (val_var rfl) (val_var rfl) upd_same T.clB T.nF (few_k (few_put l0) (by decide)) ?_
    refine sq_fld (val_var rfl) (val_var rfl) upd_same T.clB T.nL (few_k (few_put (few_put l0)) (by decide)) ?_
    refine sq_fld (val_var rfl) (val_var rfl) upd_same T.clB T.nT (few_k (few_put (few_put (few_put l0))) (by decide)) ?_
    refine sq_fld (val_var rfl) (val_var rfl) upd_same T.clB T.nE (few_k (few_put (few_put (few_put (few_put l0)))) (by decide)) ?_
    refine st_fld (val_var rfl) (val_var rfl) upd_same T.clB T.nG (few_k (few_put (few_put (few_put (few_put (few_put l0))))) (by decide)) ?_
    refine q _ ?_ fun b hb => ?_
    · rw [upd_same]
      exact congrArg (fun l => some (HO.ins CB dx l)) (bF_new x1 x2 x3 x4 x5 x6)
    · rw [upd_ne hb, upd_ne hb, upd_ne hb, upd_ne hb, upd_ne hb, upd_ne hb]
/-- a new instance's heap, and what __init__ leaves of it -/
theorem made {H H' : Hp} {x dx : Addr} {o : HO} (nx : H x = none) (ndx : H dx = none) (k : ∀ b, b ≠ x → H' b = upd (upd H dx (.own x)) x o b) : Same H H' := fun b u e => by
  rw [k b (ne_of_none e nx), upd_ne (ne_of_none e nx), upd_ne (ne_of_none e ndx)]
  exact e
theorem scOne : FnScope ["time", "value"] ["time", "value"] (defScope sOne) := ⟨rfl, rfl, rfl, by decide +kernel, rfl, by decide +kernel, by decide +kernel⟩
theorem ok_one_ {f : Addr} {fd : FuncData} {f1 : Addr} {fd1 : FuncData} (F : Fun K "bucket_of_one" "bucket_of_one" sOne f fd) (T : Txt K mg C CB CG tk) (M_Bucket : Cla P w K mg base "Bucket" CB 1 ["self", "number", "first", "last", "total", "least", "greatest"] (spBInit CB) f1 fd1) :
    FnOk P w K mg base CX0 3 f fd ["time", "value"] (spOne CB) := by
  refine F.ok scOne (fun vs H Q E h => ?_) (fun cdv A outer s H vs Q E hr_Bucket h => ?_)
  · obtain ⟨t, v, rfl, _⟩ := h
    rfl
  · obtain ⟨t, v, rfl, q⟩ := h
    refine ⟨_, (pss_one (ps_ret (pe_make M_Bucket.mkk M_Bucket.ok hr_Bucket rfl M_Bucket.mgC M_Bucket.b .nil pass0 (pa_cons pe_int (pa_cons (pv 0) (pa_cons (pv 0) (pa_cons (pv 1) (pa_cons (pv 1) (pa_cons (pv 1) pa_nil))))))))), ?_⟩
    refine st_retMake (va_cons val_c (va_cons (val_var rfl) (va_cons (val_var rfl) (va_cons (val_var rfl) (va_cons (val_var rfl) (va_cons (val_var rfl) va_nil)))))) ?_
    intro x dx nx ndx nex
    exact ⟨x, dx, _, _, _, _, _, _, rfl, upd_same, fun H1 h1 k => ⟨rfl, q H1 x (made nx ndx k) nx ⟨dx, h1⟩⟩⟩
theorem scJoined : FnScope ["one", "other"] ["one", "other"] (defScope sJoined) := ⟨rfl, rfl, rfl, by decide +kernel, rfl, by decide +kernel, by decide +kernel⟩
theorem bL_with (x y : Bucket) : bL (.int ((x.n : Int) + y.n)) (.int (min (x.first : Int) y.first)) (.int (max (x.last : Int) y.last)) (.int ((x.sum : Int) + y.sum)) (.int (min (x.least : Int) y.least)) (.int (max (x.most : Int) y.most)) = bF (x.with_ y) := by
  have e1 : (x.n : Int) + y.n = ((x.n + y.n : Nat) : Int) := by omega
  have e2 : min (x.first : Int) y.first = ((min x.first y.first : Nat) : Int) := by omega
  have e3 : max (x.last : Int) y.last = ((max x.last y.last : Nat) : Int) := by omega
  have e4 : (x.sum : Int) + y.sum = ((x.sum + y.sum : Nat) : Int) := by omega
  have e5 : min (x.least : Int) y.least = ((min x.least y.least : Nat) : Int) := by omega
  have e6 : max (x.most : Int) y.most = ((max x.most y.most : Nat) : Int) := by omega
  rw [e1, e2, e3, e4, e5, e6]
  rfl
theorem ok_joined {f : Addr} {fd : FuncData} {f1 : Addr} {fd1 : FuncData} (F : Fun K "joined" "joined" sJoined f fd) (T : Txt K mg C CB CG tk) (M_Bucket : Cla P w K mg base "Bucket" CB 1 ["self", "number", "first", "last", "total", "least", "greatest"] (spBInit CB) f1 fd1) :
    FnOk P w K mg base CX0 3 f fd ["one", "other"] (spJoined CB) := by
  refine F.ok scJoined (fun vs H Q E h => ?_) (fun cdv A outer s H vs Q E hr_Bucket h => ?_)
  · obtain ⟨p1, p2, x, y, rfl, _⟩ := h
    rfl
  · obtain ⟨p1, p2, x, y, rfl, hx, hy, q⟩ := h
    refine ⟨_, (pss_one (ps_ret (pe_make M_Bucket.mkk M_Bucket.ok hr_Bucket rfl M_Bucket.mgC M_Bucket.b .nil pass0 (pa_cons (pe_op op_add (pe_fld (pv 0) rfl) (pe_fld (pv 1) rfl)) (pa_cons (pe_callB (call_min2 rfl) (by rfl) T.b_min boot_min (pa_cons (pe_fld (pv 0) rfl) (pa_cons (pe_fld (pv 1) rfl) pa_nil))) (pa_cons (pe_callB (call_max2 rfl) (by rfl) T.b_max boot_max (pa_cons (pe_fld (pv 0) rfl) (pa_cons (pe_fld (pv 1) rfl) pa_nil))) (pa_cons (pe_op op_add (pe_fld (pv 0) rfl) (pe_fld (pv 1) rfl)) (pa_cons (pe_callB (call_min2 rfl) (by rfl) T.b_min boot_min (pa_cons (pe_fld (pv 0) rfl) (pa_cons (pe_fld (pv 1) rfl) pa_nil))) (pa_cons (pe_callB (call_max2 rfl) (by rfl) T.b_max boot_max (pa_cons (pe_fld (pv 0) rfl) (pa_cons (pe_fld (pv 1) rfl) pa_nil))) pa_nil))))))))), ?_⟩
    refine st_retMake (va_cons (val_i (val_bn T hx (val_var rfl)) (val_bn T hy (val_var rfl))) (va_cons (val_min (val_bf T hx (val_var rfl)) (val_bf T hy (val_var rfl))) (va_cons (val_max (val_bl T hx (val_var rfl)) (val_bl T hy (val_var rfl)))
      (va_cons (val_i (val_bt T hx (val_var rfl)) (val_bt T hy (val_var rfl))) (va_cons (val_min (val_be T hx (val_var rfl)) (val_be T hy (val_var rfl))) (va_cons (val_max (val_bg T hx (val_var rfl)) (val_bg T hy (val_var rfl))) va_nil)))))) ?_
    intro z dx nx ndx nex
    refine ⟨z, dx, _, _, _, _, _, _, rfl, upd_same, fun H1 h1 k => ⟨rfl, q H1 z (made nx ndx k) nx ⟨dx, ?_⟩⟩⟩
    exact h1.trans (congrArg (fun l => some (HO.ins CB dx l)) (bL_with x y))
theorem scBegin : FnScope ["time", "width"] ["time", "width"] (defScope sBegin) := ⟨rfl, rfl, rfl, by decide +kernel, rfl, by decide +kernel, by decide +kernel⟩
theorem down_neg {w : Nat} {t : Int} (h : t < 0) : (0 : Int) = (Sq38.down w t.toNat : Nat) := by
  have e : t.toNat = 0 := by omega
  rw [e]
  unfold Sq38.down
  rw [Nat.zero_div, Nat.zero_mul]
  rfl
theorem down_pos {w : Nat} {t : Int} (h : 0 ≤ t) : t / (w : Int) * w = (Sq38.down w t.toNat : Nat) := by
  have e : t = (t.toNat : Int) := by omega
  unfold Sq38.down
  rw [e, Int.toNat_natCast, Int.natCast_mul, Int.natCast_ediv]
theorem ok_begin_ {f : Addr} {fd : FuncData} (F : Fun K "beginning_of_stretch" "beginning_of_stretch" sBegin f fd) : FnOk P w K mg base CX0 1 f fd ["time", "width"] spBegin := by
  refine F.ok scBegin (fun vs H Q E h => ?_) (fun cdv A outer s H vs Q E hr h => ?_)
  · obtain ⟨t, w, rfl, _⟩ := h
    rfl
  · obtain ⟨t, w, rfl, w0, w1, q⟩ := h
    refine ⟨_, (pss_cons (ps_if (pt_cmpR op_lt (pv 0) pe_int (nomark _)) (pss_one (ps_ret pe_int)) pss_nil) (pss_one (ps_ret (pe_op op_mul (pe_op op_fdiv (pv 0) (pv 1)) (pv 1))))), ?_⟩
    refine sq_if (ans_test (val_i (val_var rfl) val_c)) (fun e => ?_) (fun e => ?_)
    · rw [← down_neg (of_decide_eq_true e)] at q
      exact st_ret val_c q
    · rw [← down_pos (Int.not_lt.mp (of_decide_eq_false e))] at q
      refine st_ret (val_ic (val_ic (val_var rfl) (val_var rfl) ⟨?_, ?_⟩) (val_var rfl) (.inr ⟨?_, ?_⟩)) q
      all_goals omega
theorem scNums : FnScope ["bucket"] ["bucket"] (defScope sNums) := ⟨rfl, rfl, rfl, by decide +kernel, rfl, by decide +kernel, by decide +kernel⟩
theorem ok_nums {f : Addr} {fd : FuncData} (F : Fun K "numbers_of" "numbers_of" sNums f fd) (T : Txt K mg C CB CG tk) : FnOk P w K mg base CX0 1 f fd ["bucket"] (spNums CB) := by
  refine F.ok scNums (fun vs H Q E h => ?_) (fun cdv A outer s H vs Q E hr h => ?_)
  · obtain ⟨p, b, rfl, _⟩ := h
    rfl
  · obtain ⟨p, b, rfl, hb, q⟩ := h
    refine ⟨_, (pss_one (ps_ret (pe_lst (pa_cons (pe_fld (pv 0) rfl) (pa_cons (pe_fld (pv 0) rfl) (pa_cons (pe_fld (pv 0) rfl) (pa_cons (pe_fld (pv 0) rfl) (pa_cons (pe_fld (pv 0) rfl) (pa_cons (pe_fld (pv 0) rfl) pa_nil))))))))), ?_⟩
    exact st_retLst (va_cons (val_bn T hb (val_var rfl)) (va_cons (val_bf T hb (val_var rfl)) (va_cons (val_bl T hb (val_var rfl)) (va_cons (val_bt T hb (val_var rfl)) (va_cons (val_be T hb (val_var rfl)) (va_cons (val_bg T hb (val_var rfl)) va_nil)))))) (few_s (by show 6 ≤ 10; decide)) q
end
end Ck

set_option Elab.async false
set_option linter.all false
set_option maxRecDepth 100000
set_option maxHeartbeats 400000
namespace Ck
open PySem PySem.Spec PyProof.Rows L2 CkL
open Sq38 (Bucket)
section
variable {D : Ends} {σ : L2.St} {H : Hp} {t2 tb : TS} {td : TE} {d : Addr} {kvs : List (Key × V)} {j : Nat}
theorem sq_setD {i : Nat} (r : ∀ d, H d = none → t2 D (σ.set i (some (.ref d))) (upd H d (.dK []))) : tSeq (tAsg tDNewK (gName i)) t2 D σ H := r
/-- for k in d: .. -/
theorem sq_forD (Pv : Obj → Nat → L2.St → Hp → Prop) (h : H d = some (.dK kvs)) (hv : ∀ od, Val td σ (upd H d (.frz od (.dK kvs))) (.ref d)) (h0 : ∀ od, Pv od 0 σ (upd H d (.frz od (.dK kvs))))
    (hG : ∀ od i σ H, Pv od i σ H → H d = some (.frz od (.dK kvs)))
    (hs : ∀ od i k v σ H (D2 : Ends), (∀ σ' H', Pv od (i + 1) σ' H' → D2.nx σ' H') → kvs[i]? = some (k, v) → Pv od i σ H → tb D2 (σ.set j (some (kV k))) H)
    (hd : ∀ od σ H, Pv od kvs.length σ H → t2 D σ (upd H d (.dK kvs))) : tSeq (tLock (tFor (iKeys td) (gName j) tb)) t2 D σ H := by
  refine ⟨d, _, h, trivial, fun od => ?_⟩
  refine hv od _ ⟨d, od, rfl, .inl ⟨kvs, upd_same, ?_⟩⟩
  refine for_it walk_keys (Pv od) (h0 od) (fun i σ H _ p => hG od i σ H p) (fun i x σ H H' hi p y => ?_) (fun σ H p => ⟨hG od _ σ H p, hd od σ H p⟩)
  obtain ⟨rfl, k, v, e, rfl⟩ := y
  refine hs od i k v σ _ _ ?_ e p
  exact fun _ _ q => q
end
section
variable {P : Program} {w : World} {K : PySem.W.Frag} {mg : Str → Option Value} {base : Heap} {C CB CG : Addr} {tk : Nat → Tok}
theorem scPut : FnScope ["finer", "coarser", "edge", "width", "staying", "begins", "bucket", "stretch"] ["finer", "coarser", "edge", "width"] (defScope sPut) := ⟨rfl, rfl, rfl, by decide +kernel, rfl, by decide +kernel, by decide +kernel⟩
theorem line1200 {n : Nat} (h : n ≤ 1200) : n < sizeLine := Nat.lt_of_le_of_lt h (by decide)
theorem ok_put_ {f : Addr} {fd : FuncData} {f1 f2 : Addr} {fd1 fd2 : FuncData} (F : Fun K "put_into_stretches" "put_into_stretches" sPut f fd) (T : Txt K mg C CB CG tk)
    (G_beginning_of_stretch : Def P w K mg base "beginning_of_stretch" 1 ["time", "width"] spBegin f1 fd1) (G_joined : Def P w K mg base "joined" 3 ["one", "other"] (spJoined CB) f2 fd2) :
    FnOk P w K mg base CX0 4 f fd ["finer", "coarser", "edge", "width"] (spPut CB) := by
  refine F.ok scPut (fun vs H Q E h => ?_) (fun cdv A outer s H vs Q E hr_joined h => ?_)
  · obtain ⟨d1, d2, e, w, fin, co, rfl, _⟩ := h
    rfl
  · obtain ⟨d1, d2, e, w, fin, co, rfl, n12, ⟨kv1, h1, r1⟩, ⟨kv2, h2, r2⟩, nd1, nd2, w0, w1, hlen, q⟩ := h
    have hu := hu_of hr_joined
    have hr_beginning_of_stretch : Room 1 _ := hr_joined.mono (by decide)
    refine ⟨_, (pss_cons (ps_set (i := 4) scPut.nd rfl (Or.inl rfl) pe_dnewK) (pss_cons (ps_lock (ps_for PassesOwn.never rfl (pi_keys (pv 0)) (pg_name (i := 5) scPut.nd rfl (Or.inl rfl)) (pss_cons (ps_set (i := 6) scPut.nd rfl (Or.inl rfl) (pe_dget hu (pv 0) (pv 5) (fun _ _ => rfl))) (pss_cons (ps_set (i := 7) scPut.nd rfl (Or.inl rfl) (pe_call G_beginning_of_stretch.ok hr_beginning_of_stretch rfl G_beginning_of_stretch.mgf G_beginning_of_stretch.kp G_beginning_of_stretch.b .nil pass0 (pa_cons (pv 5) (pa_cons (pv 3) pa_nil)))) (pss_one (ps_if (pt_cmpR op_ge (pv 5) (pv 2) (nomark _)) (pss_one (ps_dput hu (pv 4) (pv 5) (pv 6) rfl)) (pss_one (ps_if (pt_cmp (pc_din hu (pv 7) (pv 1))) (pss_one (ps_dput hu (pv 1) (pv 7) (pe_call G_joined.ok hr_joined rfl G_joined.mgf G_joined.kp G_joined.b .nil pass0 (pa_cons (pe_dget hu (pv 1) (pv 7) (fun _ _ => rfl)) (pa_cons (pv 6) pa_nil))) rfl)) (pss_one (ps_dput hu (pv 1) (pv 7) (pv 6) rfl)))))))))) (pss_one (ps_ret (pv 4))))), ?_⟩
    refine sq_setD fun d3 hd3 => ?_
    have n13 : d1 ≠ d3 := ne_of_none h1 hd3
    have n23 : d2 ≠ d3 := ne_of_none h2 hd3
    have hl : kv1.length = fin.length := r1.len
    refine sq_forD (fun od i σ H' => ∃ (x5 x6 x7 : Option V) (kvB kvS : List (Key × V)), σ = [some (.ref d1), some (.ref d2), some (.int e), some (.int w), some (.ref d3), x5, x6, x7] ∧
        H' d1 = some (.frz od (.dK kv1)) ∧ H' d2 = some (.dK kvB) ∧ H' d3 = some (.dK kvS) ∧ Rep CB H' kvB (into w e (fin.take i) co) ∧ Rep CB H' kvS (stay e (fin.take i)) ∧ (∀ b o, H b = some o → b ≠ d1 → b ≠ d2 → H' b = some o))
      (d := d1) (kvs := kv1) (by rw [upd_ne n13]; exact h1) (fun od => val_var rfl) (fun od => ?_) ?_ ?_ ?_
    · have k1 : Keeps CB H (upd (upd H d3 (.dK [])) d1 (.frz od (.dK kv1))) := (keeps_new hd3).trans (keeps_upd (q := .dK kv1) (by rw [upd_ne n13]; exact h1) fun _ _ z => by cases z)
      refine ⟨none, none, none, kv2, [], rfl, upd_same, by rw [upd_ne n12.symm, upd_ne n23]; exact h2, by rw [upd_ne n13.symm, upd_same], r2.keep k1, .nil, fun b o hb hb1 hb2 => ?_⟩
      rw [upd_ne hb1, upd_ne (ne_of_none hb hd3)]
      exact hb
    · rintro od i σ H' ⟨_, _, _, _, _, _, g1, _⟩
      exact g1
    · rintro od i k v σ H' D2 nx hi ⟨x5, x6, x7, kvB, kvS, rfl, g1, g2, g3, rB, rS, fr⟩
      have kp : Keeps CB H H' := fun a dx fs z => fr a _ z (ne_of z h1 (fun z => by cases z)) (ne_of z h2 (fun z => by cases z))
      obtain ⟨kk, a, b, ekv, hx, hb⟩ := r1.at hi
      obtain ⟨rfl, rfl⟩ := Prod.mk.inj ekv
      have hb' := kp.bk hb
      have ndi := nd_into w e (fin.take i) nd2
      have tm := take_more hx
      have vk : valV kv1 (Sum.inl (kk : Int)) = some (.ref a) := r1.val nd1 hi
      refine sq_set (val_dget (val_var rfl) (val_var rfl) (.inr ⟨od, g1⟩) vk) ?_
      refine sq_set (v := .int ((kk / w * w : Nat) : Int)) (val_call (va_cons (val_var rfl) (va_cons (val_var rfl) va_nil)) fun Q q => ⟨(kk : Int), w, rfl, w0, w1, q⟩) ?_
      refine ans_ite (ans_test (val_i (val_var rfl) (val_var rfl))) (fun c => ?_) (fun c => ?_)
      · have c' : e ≤ kk := by have := of_decide_eq_true c; omega
        have lz : kvS.length < sizeLine := line1200 (by rw [rS.len]; have := stay_take_len e fin i; omega)
        refine st_dput (val_var rfl) (val_var rfl) (val_var rfl) g3 lz (nx _ _ ?_)
        have k2 : Keeps CB H' (upd H' d3 (.dK (putK kvS (Sum.inl (kk : Int)) (.ref a)))) := keeps_upd g3 fun _ _ z => by cases z
        refine ⟨_, _, _, kvB, _, rfl, by rw [upd_ne n13]; exact g1, by rw [upd_ne n23]; exact g2, upd_same, ?_, ?_, fun b o z z1 z2 => ?_⟩
        · rw [tm, into_stay c']
          exact rB.keep k2
        · rw [tm, stay_stay c']
          exact (rS.keep k2).add (nd_new_stay nd1 hx) (k2.bk hb')
        · rw [upd_ne (ne_of_none z hd3)]
          exact fr b o z z1 z2
      · have c' : kk < e := by have := of_decide_eq_false c; omega
        have lz : kvB.length < sizeLine := line1200 (by rw [rB.len]; have := into_take_len w e fin co i; omega)
        refine ans_ite (ans_val (val_din (val_var rfl) (val_var rfl) (.inl g2))) (fun c2 => ?_) (fun c2 => ?_)
        · cases el : look (kk / w * w) (into w e (fin.take i) co) with
          | none => rw [rB.none el] at c2; cases c2
          | some x =>
            obtain ⟨a2, ha2, hx2⟩ := rB.some el
            refine st_dputCall (va_cons (val_dget (val_var rfl) (val_var rfl) (.inl g2) ha2) (va_cons (val_var rfl) va_nil)) ?_
            refine ⟨a2, a, x, b, rfl, hx2, hb', fun H2 a3 s2 n3 hb3 => ?_⟩
            refine ⟨_, rfl, _, rfl, d2, _, rfl, DPut.k (k := Sum.inl ((kk / w * w : Nat) : Int)) (s2 _ _ g2) lz, nx _ _ ?_⟩
            have k3 : Keeps CB H2 (upd H2 d2 (.dK (putK kvB (Sum.inl ((kk / w * w : Nat) : Int)) (.ref a3)))) := keeps_upd (s2 _ _ g2) fun _ _ z => by cases z
            have k4 : Keeps CB H' (upd H2 d2 (.dK (putK kvB (Sum.inl ((kk / w * w : Nat) : Int)) (.ref a3)))) := (Ck.Same.keeps s2).trans k3
            refine ⟨_, _, _, _, kvS, rfl, by rw [upd_ne n12]; exact s2 _ _ g1, upd_same, by rw [upd_ne n23.symm]; exact s2 _ _ g3, ?_, ?_, fun b o z z1 z2 => ?_⟩
            · rw [tm, into_gone c']
              exact (rB.keep k4).ups ndi el (k3.bk hb3)
            · rw [tm, stay_gone c']
              exact rS.keep k4
            · rw [upd_ne z2]
              exact s2 _ _ (fr b o z z1 z2)
        · cases el : look (kk / w * w) (into w e (fin.take i) co) with
          | some x =>
            obtain ⟨a2, ha2, hx2⟩ := rB.some el
            rw [ha2] at c2; cases c2
          | none =>
            refine st_dput (val_var rfl) (val_var rfl) (val_var rfl) g2 lz (nx _ _ ?_)
            have k2 : Keeps CB H' (upd H' d2 (.dK (putK kvB (Sum.inl ((kk / w * w : Nat) : Int)) (.ref a)))) := keeps_upd g2 fun _ _ z => by cases z
            refine ⟨_, _, _, _, kvS, rfl, by rw [upd_ne n12]; exact g1, upd_same, by rw [upd_ne n23.symm]; exact g3, ?_, ?_, fun b o z z1 z2 => ?_⟩
            · rw [tm, into_gone c', ups_look_none el]
              exact (rB.keep k2).add el (k2.bk hb')
            · rw [tm, stay_gone c']
              exact rS.keep k2
            · rw [upd_ne z2]
              exact fr b o z z1 z2
    · rintro od σ H' ⟨x5, x6, x7, kvB, kvS, rfl, g1, g2, g3, rB, rS, fr⟩
      rw [hl, List.take_length] at rB rS
      have k1 : Keeps CB H' (upd H' d1 (.dK kv1)) := keeps_upd g1 fun _ _ z => by cases z
      refine st_ret (val_var rfl) (q _ d3 hd3 ⟨kvS, by rw [upd_ne n13.symm]; exact g3, rS.keep k1⟩ ⟨kvB, by rw [upd_ne n12.symm]; exact g2, rB.keep k1⟩ fun b o z z2 => ?_)
      by_cases c : b = d1
      · subst c
        rw [upd_same]
        rw [h1] at z
        exact z
      · rw [upd_ne c]
        exact fr b o z c z2
end
end Ck

set_option Elab.async false
set_option linter.all false
set_option maxRecDepth 100000
set_option maxHeartbeats 400000
namespace Ck
open PySem PySem.Spec PyProof.Rows L2 CkL
open Sq38 (Bucket House)
abbrev sInit : Stmt := (inClass (top 21) 0)
abbrev sSetUp : Stmt := (inClass (top 21) 1)
abbrev sHBegin : Stmt := (inClass (top 21) 2)
abbrev sMove : Stmt := (inClass (top 21) 5)
abbrev sForget : Stmt := (inClass (top 21) 6)
abbrev sWidths : Stmt := (top 22)
abbrev sFit : Stmt := (top 23)
/-! ### a house with its dicts -/
structure HouseAt (C CB : Addr) (H : Hp) (p : Addr) (h : House) (s b l : D) : Prop where
  ex : ∃ d1 d2 d3, HsAt C H p h d1 d2 d3 ∧ DictAt CB H d1 s ∧ DictAt CB H d2 b ∧ DictAt CB H d3 l ∧ d1 ≠ d2 ∧ d1 ≠ d3 ∧ d2 ≠ d3
/-- all but the house and the dicts stays -/
def Stays (p : Addr) (H H' : Hp) : Prop := ∀ x o, H x = some o → x ≠ p → (∀ kvs, o ≠ .dK kvs) → H' x = some o
theorem Stays.same {p : Addr} {H H' : Hp} (s : Same H H') : Stays p H H' := fun x o e _ _ => s x o e
theorem Stays.trans {p : Addr} {H H1 H2 : Hp} (a : Stays p H H1) (b : Stays p H1 H2) : Stays p H H2 := fun x o e n k => b x o (a x o e n k) n k
theorem DictAt.keep {CB : Addr} {H H' : Hp} {d : Addr} {l : D} (h : DictAt CB H d l) (k : Keeps CB H H') (e : ∀ o, H d = some o → H' d = some o) : DictAt CB H' d l := by
  obtain ⟨kvs, h1, r⟩ := h
  exact ⟨kvs, e _ h1, r.keep k⟩
theorem HouseAt.same {C CB : Addr} {H H' : Hp} {p : Addr} {h : House} {s b l : D} (x : HouseAt C CB H p h s b l) (e : Same H H') : HouseAt C CB H' p h s b l := by
  obtain ⟨d1, d2, d3, ⟨dx, h0⟩, h1, h2, h3, n⟩ := x.ex
  exact ⟨d1, d2, d3, ⟨dx, e _ _ h0⟩, h1.keep (Ck.Same.keeps e) (fun o => e _ o), h2.keep (Ck.Same.keeps e) (fun o => e _ o), h3.keep (Ck.Same.keeps e) (fun o => e _ o), n⟩
/-- what a call of the house is answered, and how the house stands then -/
def outs (h : House) (c : Sq38.Call) : List Int := (h.step c).2.value :: (h.step c).2.out
def After (C CB : Addr) (H : Hp) (p : Addr) (c : Sq38.Call) (h : House) (s b l : D) (Q : VK) : Prop := ∀ (H' : Hp) (r : Addr) (s' b' l' : D), HouseAt C CB H' p (h.step c).1 s' b' l' → Good (h.step c).1 s' b' l' → Spans (h.step c).1 →
  s'.length + b'.length + l'.length ≤ s.length + b.length + l.length + 1 → H r = none → H' r = some (.lst ((outs h c).map V.int)) → Stays p H H' → Q (.ref r) H'
structure Before (C CB : Addr) (H : Hp) (p : Addr) (h : House) (s b l : D) : Prop where
  at_ : HouseAt C CB H p h s b l
  good : Good h s b l
  spans : Spans h
  len : s.length + b.length + l.length ≤ 1199
/-- the house as it was, a new list answered -/
theorem After.still {C CB : Addr} {H : Hp} {p r : Addr} {c : Sq38.Call} {h : House} {s b l : D} {Q : VK} (B : Before C CB H p h s b l) (q : After C CB H p c h s b l Q) {zs : List Int} (e1 : (h.step c).1 = h) (e2 : outs h c = zs) (hr : H r = none) : Q (.ref r) (upd H r (.lst (zs.map V.int))) := by
  refine q _ r s b l ?_ ?_ (by rw [e1]; exact B.spans) (Nat.le_succ _) hr (by rw [upd_same, e2]) (Stays.same (same_new hr))
  · rw [e1]; exact B.at_.same (same_new hr)
  · rw [e1]; exact B.good
theorem After.still2 {C CB : Addr} {H H1 : Hp} {p r : Addr} {c : Sq38.Call} {h : House} {s b l : D} {Q : VK} (B : Before C CB H p h s b l) (q : After C CB H p c h s b l Q) {zs : List Int} (e1 : (h.step c).1 = h) (e2 : outs h c = zs) (s1 : Same H H1) (hr : H1 r = none) : Q (.ref r) (upd H1 r (.lst (zs.map V.int))) := by
  have s2 := s1.trans (same_new (o := .lst (zs.map V.int)) hr)
  refine q _ r s b l ?_ ?_ (by rw [e1]; exact B.spans) (Nat.le_succ _) (s1.free hr) (by rw [upd_same, e2]) (Stays.same s2)
  · rw [e1]; exact B.at_.same s2
  · rw [e1]; exact B.good
theorem After.still3 {C CB : Addr} {H H1 : Hp} {p r : Addr} {c : Sq38.Call} {h : House} {s b l : D} {Q : VK} (B : Before C CB H p h s b l) (q : After C CB H p c h s b l Q) {zs : List Int} (e1 : (h.step c).1 = h) (e2 : outs h c = zs) (s1 : Same H H1) (hr : H r = none) (z : H1 r = some (.lst (zs.map V.int))) : Q (.ref r) H1 := by
  refine q _ r s b l ?_ ?_ (by rw [e1]; exact B.spans) (Nat.le_succ _) hr (by rw [z, e2]) (Stays.same s1)
  · rw [e1]; exact B.at_.same s1
  · rw [e1]; exact B.good
/-! ### promises -/
def hNew (w v k0 k1 k2 : Nat) : House := ⟨w, v, k0, k1, k2, [], [], [], 0, 0, 0⟩
def spSetUp (C CB : Addr) : Sp := fun vs H Q _ => ∃ (p dx : Addr) (fs : List (Str × V)) (w v k0 k1 k2 : Nat), vs = [.ref p, .int w, .int v, .int k0, .int k1, .int k2] ∧ H p = some (.ins C dx fs) ∧ (fs = [] ∨ ∃ h d1 d2 d3, fs = hF h d1 d2 d3) ∧
  ∀ H' : Hp, HouseAt C CB H' p (hNew w v k0 k1 k2) [] [] [] → (∀ b o, H b = some o → b ≠ p → H' b = some o) → Q .non H'
def spInit (C CB : Addr) : Sp := fun vs H Q _ => ∃ (p dx : Addr), vs = [.ref p] ∧ H p = some (.ins C dx []) ∧ ∀ H' : Hp, HouseAt C CB H' p Sq38.fresh [] [] [] → (∀ b o, H b = some o → b ≠ p → H' b = some o) → Q .non H'
def wfit (w v : Nat) : Bool := !(decide (w = 0) || decide (v = 0)) && (decide (v ≤ 1000000) && decide (v % w = 0))
def tfit (a b c : Nat) : Bool := decide (a ≤ b) && (decide (b ≤ c) && decide (c ≤ 1000000))
def spWidths : Sp := fun vs H Q _ => ∃ w v : Nat, vs = [.int w, .int v] ∧ Q (.bl (wfit w v)) H
def spFit : Sp := fun vs H Q _ => ∃ a b c : Nat, vs = [.int a, .int b, .int c] ∧ Q (.bl (tfit a b c)) H
def spHBegin (C CB : Addr) : Sp := fun vs H Q _ => ∃ (p : Addr) (h : House) (s b l : D) (w v k0 k1 k2 : Nat), vs = [.ref p, .int w, .int v, .int k0, .int k1, .int k2] ∧ Before C CB H p h s b l ∧ After C CB H p (.begin_ w v k0 k1 k2) h s b l Q
def moved (h : House) (now : Nat) : House := { h with edge0 := max h.edge0 (Sq38.down h.width (now - h.keep0)), edge1 := max h.edge1 (Sq38.down h.wide (now - h.keep1)), edge2 := max h.edge2 (Sq38.down h.wide (now - h.keep2)) }
def spMove (C : Addr) : Sp := fun vs H Q _ => ∃ (p : Addr) (h : House) (d1 d2 d3 : Addr) (now : Nat), vs = [.ref p, .int now] ∧ HsAt C H p h d1 d2 d3 ∧ 0 < h.width ∧ h.width ≤ 1000000 ∧ 0 < h.wide ∧ h.wide ≤ 1000000 ∧
  ∀ H' : Hp, HsAt C H' p (moved h now) d1 d2 d3 → (∀ b, b ≠ p → H' b = H b) → Q .non H'
def spForget (C CB : Addr) : Sp := fun vs H Q _ => ∃ (p : Addr) (h : House) (d1 d2 d3 : Addr) (l : D), vs = [.ref p] ∧ HsAt C H p h d1 d2 d3 ∧ DictAt CB H d3 l ∧ ND l ∧ l.length ≤ 1200 ∧
  ∀ (H' : Hp) (d : Addr), H d = none → HsAt C H' p h d1 d2 d → DictAt CB H' d (stay h.edge2 l) → (∀ b o, H b = some o → b ≠ p → H' b = some o) → Q .non H'
section
variable {P : Program} {w : World} {K : PySem.W.Frag} {mg : Str → Option Value} {base : Heap} {C CB CG : Addr} {tk : Nat → Tok}
theorem ans_or2 {t u : TT} {σ : L2.St} {H : Hp} {b1 b2 : Bool} (h1 : Ans t σ H b1) (h2 : b1 = false → Ans u σ H b2) : Ans (tOr t u) σ H (b1 || b2) := by
  cases b1 with
  | true => exact ans_or1 h1
  | false => exact ans_or h1 (h2 rfl)
theorem scWidths : FnScope ["width", "wide"] ["width", "wide"] (defScope sWidths) := ⟨rfl, rfl, rfl, by decide +kernel, rfl, by decide +kernel, by decide +kernel⟩
theorem dec_nat {a b : Nat} : decide (V.int (a : Int) = V.int (b : Int)) = decide (a = b) := by
  by_cases e : a = b
  · rw [e]; simp
  · rw [decide_eq_false e, decide_eq_false fun z => e (by have := V.int.inj z; omega)]
theorem dec_nat0 {a : Nat} : decide (V.int (a : Int) = V.int 0) = decide (a = 0) := dec_nat (b := 0)
theorem ok_widths {f : Addr} {fd : FuncData} (F : Fun K "widths_fit" "widths_fit" sWidths f fd) (T : Txt K mg C CB CG tk) : FnOk P w K mg base CX0 1 f fd ["width", "wide"] spWidths := by
  refine F.ok scWidths (fun vs H Q E h => ?_) (fun cdv A outer s H vs Q E hr h => ?_)
  · obtain ⟨w, v, rfl, _⟩ := h
    rfl
  · obtain ⟨w, v, rfl, q⟩ := h
    refine ⟨_, (pss_cons (ps_if (PW.pt (pw_or (pt_cmpR op_eq (pv 0) pe_int (nomark _)) (pw_or1 (pt_cmpR op_eq (pv 1) pe_int (nomark _))))) (pss_one (ps_ret pe_bl)) pss_nil) (pss_one (ps_ret (pe_and (pe_cmpR op_le (pv 1) (pe_glob (v := .int 1000000) rfl T.c_LIMIT ⟨_, rfl⟩) (nomark _)) (pe_one (pe_cmpR op_eq (pe_op op_mod (pv 1) (pv 0)) pe_int (nomark _))))))), ?_⟩
    refine sq_if (ans_or2 (ans_test (val_eq (val_var rfl) val_c rfl)) fun _ => ans_test (val_eq (val_var rfl) val_c rfl)) (fun e => ?_) (fun e => ?_)
    · refine st_ret val_c ?_
      have e' : wfit w v = false := by
        unfold wfit
        rw [dec_nat0, dec_nat0] at e
        rw [e]; rfl
      rw [e'] at q
      exact q
    · rw [dec_nat0, dec_nat0] at e
      have w0 : w ≠ 0 := fun z => by rw [z] at e; simp at e
      refine st_ret (Val.to (val_and (val_i (val_var rfl) val_c) fun _ => val_eq (val_ic (val_var rfl) (val_var rfl) (by show (0 : Int) < w; omega)) val_c rfl) ?_) q
      unfold wfit
      rw [e]
      have e1 : decide ((v : Int) ≤ 1000000) = decide (v ≤ 1000000) := by
        by_cases c : v ≤ 1000000
        · rw [decide_eq_true c, decide_eq_true (by omega)]
        · rw [decide_eq_false c, decide_eq_false (by omega)]
      have e2 : decide (V.int ((v : Int) % (w : Int)) = V.int 0) = decide (v % w = 0) := by
        rw [← Int.natCast_emod]
        exact dec_nat0
      rw [e1, e2]
      rfl
theorem scFit : FnScope ["samples_time", "buckets_time", "larger_time"] ["samples_time", "buckets_time", "larger_time"] (defScope sFit) := ⟨rfl, rfl, rfl, by decide +kernel, rfl, by decide +kernel, by decide +kernel⟩
theorem dec_le {a b : Nat} : decide ((a : Int) ≤ (b : Int)) = decide (a ≤ b) := by
  by_cases c : a ≤ b
  · rw [decide_eq_true c, decide_eq_true (by omega)]
  · rw [decide_eq_false c, decide_eq_false (by omega)]
theorem ok_fit {f : Addr} {fd : FuncData} (F : Fun K "times_fit" "times_fit" sFit f fd) (T : Txt K mg C CB CG tk) : FnOk P w K mg base CX0 1 f fd ["samples_time", "buckets_time", "larger_time"] spFit := by
  refine F.ok scFit (fun vs H Q E h => ?_) (fun cdv A outer s H vs Q E hr h => ?_)
  · obtain ⟨a, b, c, rfl, _⟩ := h
    rfl
  · obtain ⟨a, b, c, rfl, q⟩ := h
    refine ⟨_, (pss_one (ps_ret (pe_chain3 op_le op_le op_le (pv 0) (pv 1) (pv 2) (pe_glob (v := .int 1000000) rfl T.c_LIMIT ⟨_, rfl⟩)))), ?_⟩
    refine st_ret (Val.to (val_chain3 (val_var rfl) (val_var rfl) (val_var rfl) val_c) ?_) q
    unfold tfit
    rw [← dec_le, ← dec_le, ← dec_le]
    rfl
end
end Ck

set_option Elab.async false
set_option linter.all false
set_option maxRecDepth 100000
set_option maxHeartbeats 400000
namespace Ck
open PySem PySem.Spec PyProof.Rows L2 CkL
open Sq38 (Bucket House)
section
variable {D : Ends} {σ : L2.St} {H : Hp} {K : PySem.W.Frag} {a C dx : Addr} {ta tv : TE} {y : V} {f : Str} {fs : List (Str × V)} {t2 : TS}
/-- the heaps behind a store told by what holds in them -/
theorem sq_fldG (hv : Val tv σ H y) (ha : Val ta σ H (.ref a)) (ho : H a = some (.ins C dx fs)) (hc : Cls K C) (hn : NoAttr K C f) (hl : fs.length < 1000) (r : ∀ H' : Hp, H' a = some (.ins C dx (putF f y fs)) → (∀ b, b ≠ a → H' b = H b) → t2 D σ H') : tSeq (sFld K ta tv f) t2 D σ H :=
  sq_fld hv ha ho hc hn hl (r _ upd_same fun b hb => upd_ne hb)
theorem st_fldG (hv : Val tv σ H y) (ha : Val ta σ H (.ref a)) (ho : H a = some (.ins C dx fs)) (hc : Cls K C) (hn : NoAttr K C f) (hl : fs.length < 1000) (r : ∀ H' : Hp, H' a = some (.ins C dx (putF f y fs)) → (∀ b, b ≠ a → H' b = H b) → D.nx σ H') : sFld K ta tv f D σ H :=
  st_fld hv ha ho hc hn hl (r _ upd_same fun b hb => upd_ne hb)
theorem st_fldD (ha : ∀ H', Val ta σ H' (.ref a)) (ho : H a = some (.ins C dx fs)) (hc : Cls K C) (hn : NoAttr K C f) (hl : fs.length < 1000) (r : ∀ (d : Addr) (H' : Hp), H d = none → d ≠ a → H' a = some (.ins C dx (putF f (.ref d) fs)) → H' d = some (.dK []) → (∀ b, b ≠ a → b ≠ d → H' b = H b) → D.nx σ H') : sFld K ta tDNewK f D σ H := by
  intro d hd
  have n : a ≠ d := ne_of_none ho hd
  refine ha _ _ ⟨a, C, dx, fs, rfl, by rw [upd_ne n]; exact ho, hc, hn, hl, r d _ hd n.symm upd_same (by rw [upd_ne n.symm, upd_same]) fun b h1 h2 => by rw [upd_ne h1, upd_ne h2]⟩
theorem sq_fldD (ha : ∀ H', Val ta σ H' (.ref a)) (ho : H a = some (.ins C dx fs)) (hc : Cls K C) (hn : NoAttr K C f) (hl : fs.length < 1000) (r : ∀ (d : Addr) (H' : Hp), H d = none → d ≠ a → H' a = some (.ins C dx (putF f (.ref d) fs)) → H' d = some (.dK []) → (∀ b, b ≠ a → b ≠ d → H' b = H b) → t2 D σ H') : tSeq (sFld K ta tDNewK f) t2 D σ H :=
  st_fldD (D := { D with nx := t2 D }) ha ho hc hn hl r
end
section
variable {P : Program} {w : World} {K : PySem.W.Frag} {mg : Str → Option Value} {base : Heap} {C CB CG : Addr} {tk : Nat → Tok}
theorem scSetUp : FnScope ["self", "width", "wide", "samples_time", "buckets_time", "larger_time"] ["self", "width", "wide", "samples_time", "buckets_time", "larger_time"] (defScope sSetUp) := ⟨rfl, rfl, rfl, by decide +kernel, rfl, by decide +kernel, by decide +kernel⟩
theorem setup_fields {fs : List (Str × V)} {h : House} {d1 d2 d3 : Addr} (c : fs = [] ∨ ∃ h d1 d2 d3, fs = hF h d1 d2 d3) : putAllF (hF h d1 d2 d3) fs = hF h d1 d2 d3 := by
  rcases c with rfl | ⟨h', e1, e2, e3, rfl⟩
  · exact putAllF_new _ [] hN_nd
  · exact putAllF_old _ _ [] rfl hN_nd
theorem ok_setup {f : Addr} {fd : FuncData} (F : Fun K "set_up" "House.set_up" sSetUp f fd) (T : Txt K mg C CB CG tk) : FnOk P w K mg base CX0 1 f fd ["self", "width", "wide", "samples_time", "buckets_time", "larger_time"] (spSetUp C CB) := by
  refine F.ok scSetUp (fun vs H Q E h => ?_) (fun cdv A outer s H vs Q E hr h => ?_)
  · obtain ⟨p, dx, fs, w, v, k0, k1, k2, rfl, _⟩ := h
    rfl
  · obtain ⟨p, dx, fs, w, v, k0, k1, k2, rfl, hp, hf, q⟩ := h
    have l0 : fs.length ≤ 11 := by
      rcases hf with rfl | ⟨h', e1, e2, e3, rfl⟩
      · exact Nat.zero_le _
      · exact Nat.le_refl 11
    refine ⟨_, (pss_cons (ps_fld (pv 0) (pv 1) rfl) (pss_cons (ps_fld (pv 0) (pv 2) rfl) (pss_cons (ps_fld (pv 0) (pv 3) rfl) (pss_cons (ps_fld (pv 0) (pv 4) rfl) (pss_cons (ps_fld (pv 0) (pv 5) rfl) (pss_cons (ps_fld (pv 0) pe_int rfl) (pss_cons (ps_fld (pv 0) pe_int rfl) (pss_cons (ps_fld (pv 0) pe_int rfl) (pss_cons (ps_fld (pv 0) pe_dnewK rfl) (pss_cons (ps_fld (pv 0) pe_dnewK rfl) (pss_one (ps_fld (pv 0) pe_dnewK rfl)))))))))))), ?_⟩
    refine sq_fldG (val_var rfl) (val_var rfl) hp T.cl T.hw (few_k l0 (by decide)) fun H1 a1 b1 => ?_
    have l1 := few_put (f := "width") (v := .int w) l0
    refine sq_fldG (val_var rfl) (val_var rfl) a1 T.cl T.hv (few_k l1 (by decide)) fun H2 a2 b2 => ?_
    have l2 := few_put (f := "wide") (v := .int v) l1
    refine sq_fldG (val_var rfl) (val_var rfl) a2 T.cl T.h0 (few_k l2 (by decide)) fun H3 a3 b3 => ?_
    have l3 := few_put (f := "samples_time") (v := .int k0) l2
    refine sq_fldG (val_var rfl) (val_var rfl) a3 T.cl T.h1 (few_k l3 (by decide)) fun H4 a4 b4 => ?_
    have l4 := few_put (f := "buckets_time") (v := .int k1) l3
    refine sq_fldG (val_var rfl) (val_var rfl) a4 T.cl T.h2 (few_k l4 (by decide)) fun H5 a5 b5 => ?_
    have l5 := few_put (f := "larger_time") (v := .int k2) l4
    refine sq_fldG val_c (val_var rfl) a5 T.cl T.x0 (few_k l5 (by decide)) fun H6 a6 b6 => ?_
    have l6 := few_put (f := "e0") (v := .int 0) l5
    refine sq_fldG val_c (val_var rfl) a6 T.cl T.x1 (few_k l6 (by decide)) fun H7 a7 b7 => ?_
    have l7 := few_put (f := "e1") (v := .int 0) l6
    refine sq_fldG val_c (val_var rfl) a7 T.cl T.x2 (few_k l7 (by decide)) fun H8 a8 b8 => ?_
    have l8 := few_put (f := "e2") (v := .int 0) l7
    refine sq_fldD (fun _ => val_var rfl) a8 T.cl T.hs (few_k l8 (by decide)) fun d1 H9 n1 m1 a9 e9 b9 => ?_
    have l9 := few_put (f := "samples") (v := .ref d1) l8
    refine sq_fldD (fun _ => val_var rfl) a9 T.cl T.hb (few_k l9 (by decide)) fun d2 H10 n2 m2 a10 e10 b10 => ?_
    have l10 := few_put (f := "buckets") (v := .ref d2) l9
    refine st_fldD (fun _ => val_var rfl) a10 T.cl T.hl (few_k l10 (by decide)) fun d3 H11 n3 m3 a11 e11 b11 => ?_
    have fin : H11 p = some (.ins C dx (hF (hNew w v k0 k1 k2) d1 d2 d3)) := a11.trans (congrArg (fun l => some (HO.ins C dx l)) (setup_fields (h := hNew w v k0 k1 k2) (d1 := d1) (d2 := d2) (d3 := d3) hf))
    have d12 : d1 ≠ d2 := ne_of_none e9 n2
    have d23 : d2 ≠ d3 := ne_of_none e10 n3
    have x10 : H10 d1 = some (.dK []) := by rw [b10 d1 m1 d12]; exact e9
    have d13 : d1 ≠ d3 := ne_of_none x10 n3
    refine q H11 ⟨d1, d2, d3, ⟨dx, fin⟩, ⟨[], by rw [b11 d1 m1 d13]; exact x10, .nil⟩, ⟨[], by rw [b11 d2 m2 d23]; exact e10, .nil⟩, ⟨[], e11, .nil⟩, d12, d13, d23⟩ fun b o e hb => ?_
    have g8 : H8 b = some o := by rw [b8 b hb, b7 b hb, b6 b hb, b5 b hb, b4 b hb, b3 b hb, b2 b hb, b1 b hb]; exact e
    have g9 : H9 b = some o := by rw [b9 b hb (ne_of_none g8 n1)]; exact g8
    have g10 : H10 b = some o := by rw [b10 b hb (ne_of_none g9 n2)]; exact g9
    rw [b11 b hb (ne_of_none g10 n3)]
    exact g10
theorem scInit : FnScope ["self"] ["self"] (defScope sInit) := ⟨rfl, rfl, rfl, by decide +kernel, rfl, by decide +kernel, by decide +kernel⟩
theorem st_meth {D : Ends} {σ : L2.St} {H : Hp} {m : Str} {sp : Sp} {E : XK} {ta : TE} {t : TA} {p dx : Addr} {fs : List (Str × V)} {vs : List V} (ha : Val ta σ H (.ref p)) (hp : H p = some (.ins C dx fs)) (hn : fs.lookup m = none) (ht : ValA t σ H vs) (r : sp (.ref p :: (vs ++ [])) H (fun _ H1 => D.nx σ H1) E) : tDrop (tMeth C m sp [] E ta t) D σ H :=
  ha _ ⟨p, dx, fs, rfl, hp, hn, ht _ r⟩
theorem sq_meth {D : Ends} {σ : L2.St} {H : Hp} {m : Str} {sp : Sp} {E : XK} {ta : TE} {t : TA} {t2 : TS} {p dx : Addr} {fs : List (Str × V)} {vs : List V} (ha : Val ta σ H (.ref p)) (hp : H p = some (.ins C dx fs)) (hn : fs.lookup m = none) (ht : ValA t σ H vs) (r : sp (.ref p :: (vs ++ [])) H (fun _ H1 => t2 D σ H1) E) : tSeq (tDrop (tMeth C m sp [] E ta t)) t2 D σ H :=
  ha _ ⟨p, dx, fs, rfl, hp, hn, ht _ r⟩
theorem ok_init {f : Addr} {fd : FuncData} {f1 : Addr} {fd1 : FuncData} (F : Fun K "__init__" "House.__init__" sInit f fd) (T : Txt K mg C CB CG tk) (Q_set_up : Mth P w K mg base C "set_up" 1 ["self", "width", "wide", "samples_time", "buckets_time", "larger_time"] (spSetUp C CB) f1 fd1) : FnOk P w K mg base CX0 2 f fd ["self"] (spInit C CB) := by
  refine F.ok scInit (fun vs H Q E h => ?_) (fun cdv A outer s H vs Q E hr_set_up h => ?_)
  · obtain ⟨p, dx, rfl, _⟩ := h
    rfl
  · obtain ⟨p, dx, rfl, hp, q⟩ := h
    refine ⟨_, (pss_one (ps_expr (pe_meth (pv 0) T.cl Q_set_up.m Q_set_up.ok hr_set_up Q_set_up.b .nil pass0 (pa_cons pe_int (pa_cons pe_int (pa_cons pe_int (pa_cons pe_int (pa_cons pe_int pa_nil)))))))), ?_⟩
    refine st_meth (val_var rfl) hp rfl (va_cons val_c (va_cons val_c (va_cons val_c (va_cons val_c (va_cons val_c va_nil))))) ?_
    exact ⟨p, dx, [], 10, 60, 100, 600, 6000, rfl, hp, .inl rfl, q⟩
theorem scHBegin : FnScope ["self", "width", "wide", "samples_time", "buckets_time", "larger_time"] ["self", "width", "wide", "samples_time", "buckets_time", "larger_time"] (defScope sHBegin) := ⟨rfl, rfl, rfl, by decide +kernel, rfl, by decide +kernel, by decide +kernel⟩
theorem begin_cond (w v k0 k1 k2 : Nat) : (!wfit w v || !tfit k0 k1 k2) = decide (w = 0 ∨ Sq38.TIME < v ∨ v % w ≠ 0 ∨ v = 0 ∨ k1 < k0 ∨ k2 < k1 ∨ Sq38.TIME < k2) := by
  unfold wfit tfit Sq38.TIME
  rw [Bool.eq_iff_iff]
  simp only [Bool.or_eq_true, Bool.not_eq_true', Bool.and_eq_false_iff, decide_eq_true_eq, decide_eq_false_iff_not, Bool.not_eq_false', Bool.or_eq_true]
  omega
theorem ok_hbegin {f : Addr} {fd : FuncData} {f1 f2 f3 : Addr} {fd1 fd2 fd3 : FuncData} (F : Fun K "begin" "House.begin" sHBegin f fd) (T : Txt K mg C CB CG tk) (Q_set_up : Mth P w K mg base C "set_up" 1 ["self", "width", "wide", "samples_time", "buckets_time", "larger_time"] (spSetUp C CB) f1 fd1)
    (G_widths_fit : Def P w K mg base "widths_fit" 1 ["width", "wide"] spWidths f2 fd2) (G_times_fit : Def P w K mg base "times_fit" 1 ["samples_time", "buckets_time", "larger_time"] spFit f3 fd3) : FnOk P w K mg base CX0 2 f fd ["self", "width", "wide", "samples_time", "buckets_time", "larger_time"] (spHBegin C CB) := by
  refine F.ok scHBegin (fun vs H Q E h => ?_) (fun cdv A outer s H vs Q E hr_set_up h => ?_)
  · obtain ⟨p, h, s, b, l, w, v, k0, k1, k2, rfl, _⟩ := h
    rfl
  · obtain ⟨p, h, s, b, l, w, v, k0, k1, k2, rfl, B, q⟩ := h
    have hr_widths_fit := hr_set_up
    have hr_times_fit := hr_set_up
    obtain ⟨d1, d2, d3, ⟨dx, hp⟩, _⟩ := B.at_.ex
    refine ⟨_, (pss_cons (ps_if (PW.pt (pw_or (pt_not (pt_val (pe_call G_widths_fit.ok hr_widths_fit rfl G_widths_fit.mgf G_widths_fit.kp G_widths_fit.b .nil pass0 (pa_cons (pv 1) (pa_cons (pv 2) pa_nil))))) (pw_or1 (pt_not (pt_val (pe_call G_times_fit.ok hr_times_fit rfl G_times_fit.mgf G_times_fit.kp G_times_fit.b .nil pass0 (pa_cons (pv 3) (pa_cons (pv 4) (pa_cons (pv 5) pa_nil))))))))) (pss_one (ps_ret (pe_lst (pa_cons (pe_un un_neg pe_int) pa_nil)))) pss_nil) (pss_cons (ps_expr (pe_meth (pv 0) T.cl Q_set_up.m Q_set_up.ok hr_set_up Q_set_up.b .nil pass0 (pa_cons (pv 1) (pa_cons (pv 2) (pa_cons (pv 3) (pa_cons (pv 4) (pa_cons (pv 5) pa_nil))))))) (pss_one (ps_ret (pe_lst (pa_cons pe_int pa_nil)))))), ?_⟩
    refine sq_if (ans_or2 (ans_not (ans_val (val_call (va_cons (val_var rfl) (va_cons (val_var rfl) va_nil)) fun Q q => ⟨w, v, rfl, q⟩))) fun _ => ans_not (ans_val (val_call (va_cons (val_var rfl) (va_cons (val_var rfl) (va_cons (val_var rfl) va_nil))) fun Q q => ⟨k0, k1, k2, rfl, q⟩))) (fun e => ?_) (fun e => ?_)
    · rw [begin_cond] at e
      have e := of_decide_eq_true e
      refine st_retLst (va_cons (val_neg val_c) va_nil) (few_s (by decide)) fun r hr => ?_
      have st : h.step (.begin_ w v k0 k1 k2) = (h, Sq38.says (-1)) := if_pos e
      exact After.still (zs := [-1]) B q (by rw [st]) (by unfold outs; rw [st]; rfl) hr
    · rw [begin_cond] at e
      have e := of_decide_eq_false e
      have st : h.step (.begin_ w v k0 k1 k2) = (hNew w v k0 k1 k2, Sq38.says 0) := if_neg e
      refine sq_meth (val_var rfl) hp (hF_no _ _ _ _ (by decide +kernel)) (va_cons (val_var rfl) (va_cons (val_var rfl) (va_cons (val_var rfl) (va_cons (val_var rfl) (va_cons (val_var rfl) va_nil))))) ?_
      refine ⟨p, dx, _, w, v, k0, k1, k2, rfl, hp, .inr ⟨_, _, _, _, rfl⟩, fun H1 A1 k1' => ?_⟩
      refine st_retLst (va_cons val_c va_nil) (few_s (by decide)) fun r hr => ?_
      have hr0 : H r = none := by
        cases z : H r with
        | none => rfl
        | some o =>
          by_cases c : r = p
          · obtain ⟨_, _, _, ⟨_, h0⟩, _⟩ := A1.ex
            rw [c, h0] at hr; cases hr
          · rw [k1' r o z c] at hr; cases hr
      refine q _ r [] [] [] ?_ ?_ (by rw [st]; exact spans_new w v k0 k1 k2 (by omega) (by omega)) (Nat.zero_le _) hr0 (by unfold outs; rw [st, upd_same]; rfl) fun x o e n _ => ?_
      · rw [st]; exact A1.same (same_new hr)
      · rw [st]
        have hw : Sq38.TIME = 1000000 := rfl
        exact ⟨List.Perm.refl _, List.Pairwise.nil, ⟨List.Perm.refl _, List.Pairwise.nil⟩, ⟨List.Perm.refl _, List.Pairwise.nil⟩, fun x hx => (by cases hx), fun x hx => (by cases hx), by show 0 < w; omega, by
          show w ≤ 1000000
          have h1 : v % w = 0 := by omega
          have h2 : 0 < v := by omega
          have h3 := Nat.le_of_dvd h2 (Nat.dvd_of_mod_eq_zero h1)
          omega, by show 0 < v; omega, by show v ≤ 1000000; omega⟩
      · rw [upd_ne (ne_of_none (k1' x o e n) hr)]
        exact k1' x o e n
end
end Ck

set_option Elab.async false
set_option linter.all false
set_option maxRecDepth 100000
set_option maxHeartbeats 400000
namespace Ck
open PySem PySem.Spec PyProof.Rows L2 CkL
open Sq38 (Bucket House)
abbrev sSample : Stmt := (inClass (top 21) 3)
abbrev sAge : Stmt := (inClass (top 21) 4)
def spSample (C CB : Addr) : Sp := fun vs H Q _ => ∃ (p : Addr) (h : House) (s b l : D) (t v : Nat), vs = [.ref p, .int t, .int v] ∧ Before C CB H p h s b l ∧ After C CB H p (.sample t v) h s b l Q
def spAge (C CB : Addr) : Sp := fun vs H Q _ => ∃ (p : Addr) (h : House) (s b l : D) (now : Nat), vs = [.ref p, .int now] ∧ Before C CB H p h s b l ∧ After C CB H p (.age now) h s b l Q
section
variable {P : Program} {w : World} {K : PySem.W.Frag} {mg : Str → Option Value} {base : Heap} {C CB CG : Addr} {tk : Nat → Tok}
theorem scMove : FnScope ["self", "now"] ["self", "now"] (defScope sMove) := ⟨rfl, rfl, rfl, by decide +kernel, rfl, by decide +kernel, by decide +kernel⟩
theorem max_nat {a b : Nat} : V.int (max (a : Int) (b : Int)) = V.int ((max a b : Nat) : Int) := congrArg V.int (by omega)
theorem sub_toNat {a b : Nat} : ((a : Int) - (b : Int)).toNat = a - b := by omega
theorem ok_move {f : Addr} {fd : FuncData} {f1 : Addr} {fd1 : FuncData} (F : Fun K "move_edges" "House.move_edges" sMove f fd) (T : Txt K mg C CB CG tk) (G_beginning_of_stretch : Def P w K mg base "beginning_of_stretch" 1 ["time", "width"] spBegin f1 fd1) : FnOk P w K mg base CX0 2 f fd ["self", "now"] (spMove C) := by
  refine F.ok scMove (fun vs H Q E h => ?_) (fun cdv A outer s H vs Q E hr_beginning_of_stretch h => ?_)
  · obtain ⟨p, h, d1, d2, d3, now, rfl, _⟩ := h
    rfl
  · obtain ⟨p, h, d1, d2, d3, now, rfl, ⟨dx, hp⟩, w0, w1, v0, v1, q⟩ := h
    refine ⟨_, (pss_cons (ps_fld (pv 0) (pe_callB (call_max2 rfl) (by rfl) T.b_max boot_max (pa_cons (pe_fld (pv 0) rfl) (pa_cons (pe_call G_beginning_of_stretch.ok hr_beginning_of_stretch rfl G_beginning_of_stretch.mgf G_beginning_of_stretch.kp G_beginning_of_stretch.b .nil pass0 (pa_cons (pe_op op_sub (pv 1) (pe_fld (pv 0) rfl)) (pa_cons (pe_fld (pv 0) rfl) pa_nil))) pa_nil))) rfl) (pss_cons (ps_fld (pv 0) (pe_callB (call_max2 rfl) (by rfl) T.b_max boot_max (pa_cons (pe_fld (pv 0) rfl) (pa_cons (pe_call G_beginning_of_stretch.ok hr_beginning_of_stretch rfl G_beginning_of_stretch.mgf G_beginning_of_stretch.kp G_beginning_of_stretch.b .nil pass0 (pa_cons (pe_op op_sub (pv 1) (pe_fld (pv 0) rfl)) (pa_cons (pe_fld (pv 0) rfl) pa_nil))) pa_nil))) rfl) (pss_one (ps_fld (pv 0) (pe_callB (call_max2 rfl) (by rfl) T.b_max boot_max (pa_cons (pe_fld (pv 0) rfl) (pa_cons (pe_call G_beginning_of_stretch.ok hr_beginning_of_stretch rfl G_beginning_of_stretch.mgf G_beginning_of_stretch.kp G_beginning_of_stretch.b .nil pass0 (pa_cons (pe_op op_sub (pv 1) (pe_fld (pv 0) rfl)) (pa_cons (pe_fld (pv 0) rfl) pa_nil))) pa_nil))) rfl)))), ?_⟩
    have A0 : HsAt C H p h d1 d2 d3 := ⟨dx, hp⟩
    refine sq_fldG (y := .int ((max h.edge0 (Sq38.down h.width (now - h.keep0)) : Nat) : Int)) (Val.to (val_max (val_h T.cl A0 T.x0 (hF_e0 _ _ _ _) (val_var rfl)) (val_call (v := .int (Sq38.down h.width (now - h.keep0) : Nat)) (va_cons (val_i (val_var rfl) (val_h T.cl A0 T.h0 (hF_0 _ _ _ _) (val_var rfl))) (va_cons (val_h T.cl A0 T.hw (hF_w _ _ _ _) (val_var rfl)) va_nil)) fun Q q => ⟨_, h.width, rfl, w0, w1, by rw [sub_toNat]; exact q⟩)) max_nat) (val_var rfl) hp T.cl T.x0 (hF_few _ _ _ _) fun H1 g1 b1 => ?_
    rw [hF_pe0] at g1
    have A1 : HsAt C H1 p _ d1 d2 d3 := ⟨dx, g1⟩
    refine sq_fldG (y := .int ((max h.edge1 (Sq38.down h.wide (now - h.keep1)) : Nat) : Int)) (Val.to (val_max (val_h T.cl A1 T.x1 (hF_e1 _ _ _ _) (val_var rfl)) (val_call (v := .int (Sq38.down h.wide (now - h.keep1) : Nat)) (va_cons (val_i (val_var rfl) (val_h T.cl A1 T.h1 (hF_1 _ _ _ _) (val_var rfl))) (va_cons (val_h T.cl A1 T.hv (hF_v _ _ _ _) (val_var rfl)) va_nil)) fun Q q => ⟨_, h.wide, rfl, v0, v1, by rw [sub_toNat]; exact q⟩)) max_nat) (val_var rfl) g1 T.cl T.x1 (hF_few _ _ _ _) fun H2 g2 b2 => ?_
    rw [hF_pe1] at g2
    have A2 : HsAt C H2 p _ d1 d2 d3 := ⟨dx, g2⟩
    refine st_fldG (y := .int ((max h.edge2 (Sq38.down h.wide (now - h.keep2)) : Nat) : Int)) (Val.to (val_max (val_h T.cl A2 T.x2 (hF_e2 _ _ _ _) (val_var rfl)) (val_call (v := .int (Sq38.down h.wide (now - h.keep2) : Nat)) (va_cons (val_i (val_var rfl) (val_h T.cl A2 T.h2 (hF_2 _ _ _ _) (val_var rfl))) (va_cons (val_h T.cl A2 T.hv (hF_v _ _ _ _) (val_var rfl)) va_nil)) fun Q q => ⟨_, h.wide, rfl, v0, v1, by rw [sub_toNat]; exact q⟩)) max_nat) (val_var rfl) g2 T.cl T.x2 (hF_few _ _ _ _) fun H3 g3 b3 => ?_
    rw [hF_pe2] at g3
    exact q H3 ⟨dx, g3⟩ fun b hb => by rw [b3 b hb, b2 b hb, b1 b hb]
theorem scForget : FnScope ["self", "staying", "begins"] ["self"] (defScope sForget) := ⟨rfl, rfl, rfl, by decide +kernel, rfl, by decide +kernel, by decide +kernel⟩
theorem ok_forget {f : Addr} {fd : FuncData} (F : Fun K "forget_larger" "House.forget_larger" sForget f fd) (T : Txt K mg C CB CG tk) : FnOk P w K mg base CX0 1 f fd ["self"] (spForget C CB) := by
  refine F.ok scForget (fun vs H Q E h => ?_) (fun cdv A outer s H vs Q E hr h => ?_)
  · obtain ⟨p, h, d1, d2, d3, l, rfl, _⟩ := h
    rfl
  · obtain ⟨p, h, d1, d2, d3, l, rfl, ⟨dx, hp⟩, ⟨kv1, h1, r1⟩, nd1, hlen, q⟩ := h
    have hu := hu_of hr
    refine ⟨_, (pss_cons (ps_set (i := 1) scForget.nd rfl (Or.inl rfl) pe_dnewK) (pss_cons (ps_lock (ps_for PassesOwn.never rfl (pi_keys (pe_fld (pv 0) rfl)) (pg_name (i := 2) scForget.nd rfl (Or.inl rfl)) (pss_one (ps_if (pt_cmpR op_ge (pv 2) (pe_fld (pv 0) rfl) (nomark _)) (pss_one (ps_dput hu (pv 1) (pv 2) (pe_dget hu (pe_fld (pv 0) rfl) (pv 2) (fun _ _ => rfl)) rfl)) pss_nil)))) (pss_one (ps_fld (pv 0) (pv 1) rfl)))), ?_⟩
    refine sq_setD fun d hd => ?_
    have np3 : p ≠ d3 := ne_of hp h1 (by intro z; cases z)
    have npd : p ≠ d := ne_of_none hp hd
    have n3d : d3 ≠ d := ne_of_none h1 hd
    have hl : kv1.length = l.length := r1.len
    refine sq_forD (fun od i σ H' => ∃ (x2 : Option V) (kvS : List (Key × V)), σ = [some (.ref p), some (.ref d), x2] ∧ H' d3 = some (.frz od (.dK kv1)) ∧ H' d = some (.dK kvS) ∧ Rep CB H' kvS (stay h.edge2 (l.take i)) ∧ (∀ b o, H b = some o → b ≠ d3 → H' b = some o))
      (d := d3) (kvs := kv1) (by rw [upd_ne n3d]; exact h1) (fun od => val_h (d1 := d1) (d2 := d2) (d3 := d3) (h := h) T.cl ⟨dx, by rw [upd_ne np3, upd_ne npd]; exact hp⟩ T.hl (hF_l _ _ _ _) (val_var rfl)) (fun od => ?_) ?_ ?_ ?_
    · refine ⟨none, [], rfl, upd_same, by rw [upd_ne n3d.symm, upd_same], .nil, fun b o hb hb1 => ?_⟩
      rw [upd_ne hb1, upd_ne (ne_of_none hb hd)]
      exact hb
    · rintro od i σ H' ⟨_, _, _, g1, _⟩
      exact g1
    · rintro od i k v σ H' D2 nx hi ⟨x2, kvS, rfl, g1, g3, rS, fr⟩
      have kp : Keeps CB H H' := fun a dx fs z => fr a _ z (ne_of z h1 (fun z => by cases z))
      obtain ⟨kk, a, b, ekv, hx, hb⟩ := r1.at hi
      obtain ⟨rfl, rfl⟩ := Prod.mk.inj ekv
      have hb' := kp.bk hb
      have A1 : HsAt C H' p h d1 d2 d3 := ⟨dx, fr _ _ hp np3⟩
      have tm := take_more hx
      refine ans_ite (ans_test (val_i (val_var rfl) (val_h T.cl A1 T.x2 (hF_e2 _ _ _ _) (val_var rfl)))) (fun c => ?_) (fun c => ?_)
      · have c' : h.edge2 ≤ kk := by have := of_decide_eq_true c; omega
        have lz : kvS.length < sizeLine := line1200 (by rw [rS.len]; have := stay_take_len h.edge2 l i; omega)
        refine st_dput (v := .ref a) (val_dget (val_h T.cl A1 T.hl (hF_l _ _ _ _) (val_var rfl)) (val_var rfl) (.inr ⟨od, g1⟩) (r1.val nd1 hi)) (val_var rfl) (val_var rfl) g3 lz (nx _ _ ?_)
        have k2 : Keeps CB H' (upd H' d (.dK (putK kvS (Sum.inl (kk : Int)) (.ref a)))) := keeps_upd g3 fun _ _ z => by cases z
        refine ⟨_, _, rfl, by rw [upd_ne n3d]; exact g1, upd_same, ?_, fun b o z z1 => ?_⟩
        · rw [tm, stay_stay c']
          exact (rS.keep k2).add (nd_new_stay nd1 hx) (k2.bk hb')
        · rw [upd_ne (ne_of_none z hd)]
          exact fr b o z z1
      · have c' : kk < h.edge2 := by have := of_decide_eq_false c; omega
        refine st_next (nx _ _ ⟨_, kvS, rfl, g1, g3, ?_, fr⟩)
        rw [tm, stay_gone c']
        exact rS
    · rintro od σ H' ⟨x2, kvS, rfl, g1, g3, rS, fr⟩
      rw [hl, List.take_length] at rS
      have k1 : Keeps CB H' (upd H' d3 (.dK kv1)) := keeps_upd g1 fun _ _ z => by cases z
      have hp1 : (upd H' d3 (.dK kv1)) p = some (.ins C dx (hF h d1 d2 d3)) := by rw [upd_ne np3]; exact fr _ _ hp np3
      refine st_fldG (val_var rfl) (val_var rfl) hp1 T.cl T.hl (hF_few _ _ _ _) fun H2 a2 b2 => ?_
      rw [hF_pl] at a2
      have kk2 : ∀ b o, H b = some o → b ≠ p → H2 b = some o := fun b o z zp => by
        rw [b2 b zp]
        by_cases c : b = d3
        · subst c
          rw [upd_same]
          rw [h1] at z
          exact z
        · rw [upd_ne c]
          exact fr b o z c
      refine q H2 d hd ⟨dx, a2⟩ ⟨kvS, by rw [b2 d npd.symm, upd_ne n3d.symm]; exact g3, ?_⟩ kk2
      refine (rS.keep k1).keep fun a dx' fs z => ?_
      by_cases c : a = p
      · rw [c, hp1] at z
        exact absurd (HO.ins.inj (Option.some.inj z)).1 T.ne
      · rw [b2 a c]; exact z
theorem scSample : FnScope ["self", "time", "value"] ["self", "time", "value"] (defScope sSample) := ⟨rfl, rfl, rfl, by decide +kernel, rfl, by decide +kernel, by decide +kernel⟩
theorem dec_lt {a b : Nat} : decide ((a : Int) < (b : Int)) = decide (a < b) := by
  by_cases c : a < b
  · rw [decide_eq_true c, decide_eq_true (by omega)]
  · rw [decide_eq_false c, decide_eq_false (by omega)]
theorem sq_dputCall {D : Ends} {σ : L2.St} {H : Hp} {ta tb : TE} {sp : Sp} {E : XK} {t : TA} {vs : List V} {t2 : TS} (h : ValA t σ H vs) (r : sp (vs ++ []) H (fun v H1 => ta σ H1 fun x H2 => tb σ H2 fun y H3 => ∃ a H4, x = .ref a ∧ DPut H3 a y v H4 ∧ t2 D σ H4) E) : tSeq (sDPut ta tb (tCall sp [] E t)) t2 D σ H := h _ r
theorem ok_sample {f : Addr} {fd : FuncData} {f1 : Addr} {fd1 : FuncData} (F : Fun K "sample" "House.sample" sSample f fd) (T : Txt K mg C CB CG tk) (G_bucket_of_one : Def P w K mg base "bucket_of_one" 3 ["time", "value"] (spOne CB) f1 fd1) : FnOk P w K mg base CX0 4 f fd ["self", "time", "value"] (spSample C CB) := by
  refine F.ok scSample (fun vs H Q E h => ?_) (fun cdv A outer s H vs Q E hr_bucket_of_one h => ?_)
  · obtain ⟨p, h, s, b, l, t, v, rfl, _⟩ := h
    rfl
  · obtain ⟨p, h, s, b, l, t, v, rfl, B, q⟩ := h
    have hu := hu_of hr_bucket_of_one
    obtain ⟨d1, d2, d3, A0, ⟨kv1, h1, r1⟩, D2, D3, n12, n13, n23⟩ := B.at_.ex
    refine ⟨_, (pss_cons (ps_if (PW.pt (pw_or (pt_cmpR op_gt (pv 1) (pe_glob (v := .int 1000000) rfl T.c_LIMIT ⟨_, rfl⟩) (nomark _)) (pw_or1 (pt_cmpR op_gt (pv 2) (pe_glob (v := .int 1000000) rfl T.c_LIMIT ⟨_, rfl⟩) (nomark _))))) (pss_one (ps_ret (pe_lst (pa_cons (pe_un un_neg pe_int) pa_nil)))) pss_nil) (pss_cons (ps_if (pt_cmpR op_lt (pv 1) (pe_fld (pv 0) rfl) (nomark _)) (pss_one (ps_ret (pe_lst (pa_cons (pe_un un_neg pe_int) pa_nil)))) pss_nil) (pss_cons (ps_if (pt_cmp (pc_din hu (pv 1) (pe_fld (pv 0) rfl))) (pss_cons (ps_if (pt_cmpR op_ne (pe_fld (pe_dget hu (pe_fld (pv 0) rfl) (pv 1) (fun _ _ => rfl)) rfl) (pv 2) (nomark _)) (pss_one (ps_ret (pe_lst (pa_cons (pe_un un_neg pe_int) pa_nil)))) pss_nil) (pss_one (ps_ret (pe_lst (pa_cons (pe_callB call_lenD (by rfl) T.b_len PySem.boot_len (pa_cons (pe_fld (pv 0) rfl) pa_nil)) pa_nil))))) pss_nil) (pss_cons (ps_if (pt_cmpR op_ge (pe_callB call_lenD (by rfl) T.b_len PySem.boot_len (pa_cons (pe_fld (pv 0) rfl) pa_nil)) (pe_glob (v := .int 100) rfl T.c_MOST_SAMPLES ⟨_, rfl⟩) (nomark _)) (pss_one (ps_ret (pe_lst (pa_cons (pe_un un_neg pe_int) pa_nil)))) pss_nil) (pss_cons (ps_dput hu (pe_fld (pv 0) rfl) (pv 1) (pe_call G_bucket_of_one.ok hr_bucket_of_one rfl G_bucket_of_one.mgf G_bucket_of_one.kp G_bucket_of_one.b .nil pass0 (pa_cons (pv 1) (pa_cons (pv 2) pa_nil))) rfl) (pss_one (ps_ret (pe_lst (pa_cons (pe_callB call_lenD (by rfl) T.b_len PySem.boot_len (pa_cons (pe_fld (pv 0) rfl) pa_nil)) pa_nil))))))))), ?_⟩
    have hT : Sq38.TIME = 1000000 := rfl
    have hV : Sq38.VALUE = 1000000 := rfl
    have hS : Sq38.SAMPLES = 100 := rfl
    refine sq_if (ans_or2 (ans_test (val_i (val_var rfl) val_c)) fun _ => ans_test (val_i (val_var rfl) val_c)) (fun e => ?_) (fun e => ?_)
    · have c : Sq38.TIME < t ∨ Sq38.VALUE < v := by
        rcases Bool.or_eq_true _ _ |>.mp e with e | e
        · have := of_decide_eq_true e; omega
        · have := of_decide_eq_true e; omega
      refine st_retLst (va_cons (val_neg val_c) va_nil) (few_s (by decide)) fun r hr => ?_
      have st : h.step (.sample t v) = (h, Sq38.says (-1)) := if_pos c
      exact After.still (zs := [-1]) B q (by rw [st]) (by unfold outs; rw [st]; rfl) hr
    · have c : ¬ (Sq38.TIME < t ∨ Sq38.VALUE < v) := by
        obtain ⟨e1, e2⟩ := Bool.or_eq_false_iff.mp e
        have := of_decide_eq_false e1
        have := of_decide_eq_false e2
        omega
      refine sq_if (ans_test (val_i (val_var rfl) (val_h T.cl A0 T.x0 (hF_e0 _ _ _ _) (val_var rfl)))) (fun e => ?_) (fun e => ?_)
      · have c2 : t < h.edge0 := by have := of_decide_eq_true e; omega
        refine st_retLst (va_cons (val_neg val_c) va_nil) (few_s (by decide)) fun r hr => ?_
        have st : h.step (.sample t v) = (h, Sq38.says (-6)) := (if_neg c).trans (if_pos c2)
        exact After.still (zs := [-6]) B q (by rw [st]) (by unfold outs; rw [st]; rfl) hr
      · have c2 : ¬ t < h.edge0 := by have := of_decide_eq_false e; omega
        have st0 : h.step (.sample t v) = (match h.raw.find? fun x => x.1 == t with
          | some x => if x.2 = v then (h, Sq38.says h.raw.length) else (h, Sq38.says (-4))
          | none => if Sq38.SAMPLES ≤ h.raw.length then (h, Sq38.says (-5)) else ({ h with raw := Sq38.enter (t, v) h.raw }, Sq38.says (h.raw.length + 1 : Nat))) := (if_neg c).trans (if_neg c2)
        have lk := B.good.look t
        have hlen : kv1.length = h.raw.length := r1.len.trans B.good.len
        refine sq_if (ans_val (val_din (val_var rfl) (val_h T.cl A0 T.hs (hF_s _ _ _ _) (val_var rfl)) (.inl h1))) (fun e => ?_) (fun e => ?_)
        · cases ef : h.raw.find? fun x => x.1 == t with
          | none =>
            rw [ef] at lk
            rw [r1.none lk] at e; cases e
          | some x =>
            rw [ef] at lk st0
            obtain ⟨a, ha, hb⟩ := r1.some lk
            refine sq_if (ans_test (val_ne (val_bt T hb (val_dget (val_h T.cl A0 T.hs (hF_s _ _ _ _) (val_var rfl)) (val_var rfl) (.inl h1) ha)) (val_var rfl) rfl)) (fun e2 => ?_) (fun e2 => ?_)
            · refine st_retLst (va_cons (val_neg val_c) va_nil) (few_s (by decide)) fun r hr => ?_
              have ne : ¬ x.2 = v := fun z => by
                have z' : (Sq38.one x).sum = v := z
                rw [z'] at e2
                simp at e2
              have st : h.step (.sample t v) = (h, Sq38.says (-4)) := st0.trans (if_neg ne)
              exact After.still (zs := [-4]) B q (by rw [st]) (by unfold outs; rw [st]; rfl) hr
            · refine st_retLst (va_cons (val_lenD (val_h T.cl A0 T.hs (hF_s _ _ _ _) (val_var rfl)) h1) va_nil) (few_s (by show 1 ≤ 10; decide)) fun r hr => ?_
              have eq : x.2 = v := by
                have z := of_decide_eq_true (by simpa using e2 : decide (V.int ((Sq38.one x).sum : Int) = V.int (v : Int)) = true)
                have z := V.int.inj z
                have z' : ((x.2 : Nat) : Int) = v := z
                omega
              have st : h.step (.sample t v) = (h, Sq38.says h.raw.length) := st0.trans (if_pos eq)
              exact After.still (zs := [(kv1.length : Int)]) B q (by rw [st]) (by unfold outs; rw [st, hlen]; rfl) hr
        · cases ef : h.raw.find? fun x => x.1 == t with
          | some x =>
            rw [ef] at lk
            obtain ⟨a, ha, hb⟩ := r1.some lk
            rw [ha] at e; cases e
          | none =>
            rw [ef] at lk st0
            refine sq_if (ans_test (val_i (val_lenD (val_h T.cl A0 T.hs (hF_s _ _ _ _) (val_var rfl)) h1) val_c)) (fun e2 => ?_) (fun e2 => ?_)
            · have c3 : Sq38.SAMPLES ≤ h.raw.length := by have := of_decide_eq_true e2; omega
              refine st_retLst (va_cons (val_neg val_c) va_nil) (few_s (by decide)) fun r hr => ?_
              have st : h.step (.sample t v) = (h, Sq38.says (-5)) := st0.trans (if_pos c3)
              exact After.still (zs := [-5]) B q (by rw [st]) (by unfold outs; rw [st]; rfl) hr
            · have c3 : ¬ Sq38.SAMPLES ≤ h.raw.length := by have := of_decide_eq_false e2; omega
              have st : h.step (.sample t v) = ({ h with raw := Sq38.enter (t, v) h.raw }, Sq38.says (h.raw.length + 1 : Nat)) := st0.trans (if_neg c3)
              refine sq_dputCall (va_cons (val_var rfl) (va_cons (val_var rfl) va_nil)) ⟨t, v, rfl, fun H1 a s1 na hb => ?_⟩
              have lz : kv1.length < sizeLine := line1200 (by have := B.len; have := r1.len; omega)
              have A1 : HsAt C H1 p h d1 d2 d3 := by
                obtain ⟨dx, hp⟩ := A0
                exact ⟨dx, s1 _ _ hp⟩
              refine val_h T.cl A1 T.hs (hF_s _ _ _ _) (val_var rfl) _ ⟨_, rfl, d1, _, rfl, DPut.k (k := Sum.inl (t : Int)) (s1 _ _ h1) lz, ?_⟩
              have el : (putK kv1 (Sum.inl (t : Int) : Key) (V.ref a)).length = kv1.length + 1 := by
                rw [putK_new _ (r1.none lk), List.length_append]
                all_goals rfl
              have k2 : Keeps CB H1 (upd H1 d1 (.dK (putK kv1 (Sum.inl (t : Int)) (.ref a)))) := keeps_upd (s1 _ _ h1) fun _ _ z => by cases z
              have pd1 : p ≠ d1 := by
                obtain ⟨dx, hp⟩ := A0
                exact ne_of hp h1 (by intro z; cases z)
              have A2 : HsAt C (upd H1 d1 (.dK (putK kv1 (Sum.inl (t : Int)) (.ref a)))) p h d1 d2 d3 := by
                obtain ⟨dx, hp⟩ := A1
                exact ⟨dx, by rw [upd_ne pd1]; exact hp⟩
              refine st_retLst (va_cons (val_lenD (val_h T.cl A2 T.hs (hF_s _ _ _ _) (val_var rfl)) upd_same) va_nil) (few_s (by show 1 ≤ 10; decide)) fun r hr => ?_
              have hr1 : H1 r = none := by
                by_cases c : r = d1
                · rw [c, upd_same] at hr; cases hr
                · rw [upd_ne c] at hr; exact hr
              have H2A : HouseAt C CB (upd H1 d1 (.dK (putK kv1 (Sum.inl (t : Int)) (.ref a)))) p { h with raw := Sq38.enter (t, v) h.raw } (s ++ [(t, Sq38.one (t, v))]) b l := by
                have kp : Keeps CB H (upd H1 d1 (.dK (putK kv1 (Sum.inl (t : Int)) (.ref a)))) := (Ck.Same.keeps s1).trans k2
                refine ⟨d1, d2, d3, A2, ⟨_, upd_same, ?_⟩, D2.keep kp (fun o z => by rw [upd_ne n12.symm]; exact s1 _ _ z), D3.keep kp (fun o z => by rw [upd_ne n13.symm]; exact s1 _ _ z), n12, n13, n23⟩
                exact (r1.keep kp).add lk (k2.bk hb)
              refine q _ r (s ++ [(t, Sq38.one (t, v))]) b l ?_ ?_ (by rw [st]; exact spans_sample B.spans (by omega)) ?_ (s1.free hr1) ?_ ?_
              · rw [st]; exact H2A.same (same_new hr)
              · rw [st]; exact good_sample B.good ef
              · rw [List.length_append]
                show s.length + 1 + b.length + l.length ≤ _
                omega
              · unfold outs
                rw [st, upd_same, el, hlen]
                rfl
              · intro x o z zp zk
                have x1 : x ≠ d1 := fun c => by
                  rw [c, h1] at z
                  exact zk kv1 (Option.some.inj z).symm
                have x2 : x ≠ r := ne_of_none (s1 _ _ z) hr1
                rw [upd_ne x2, upd_ne x1]
                exact s1 _ _ z
end
end Ck

set_option Elab.async false
set_option linter.all false
set_option maxRecDepth 100000
set_option maxHeartbeats 400000
namespace Ck
open PySem PySem.Spec PyProof.Rows L2 CkL
open Sq38 (Bucket House)
section
variable {P : Program} {w : World} {K : PySem.W.Frag} {mg : Str → Option Value} {base : Heap} {C CB CG : Addr} {tk : Nat → Tok}
theorem scAge : FnScope ["self", "now"] ["self", "now"] (defScope sAge) := ⟨rfl, rfl, rfl, by decide +kernel, rfl, by decide +kernel, by decide +kernel⟩
/-- e.f = g(..) -/
theorem sq_fldCall {D : Ends} {σ : L2.St} {H : Hp} {ta : TE} {sp : Sp} {E : XK} {t : TA} {vs : List V} {t2 : TS} {f : Str} (h : ValA t σ H vs) (r : sp (vs ++ []) H (fun y H1 => ta σ H1 fun x H2 => ∃ a C dx fs, x = .ref a ∧ H2 a = some (.ins C dx fs) ∧ Cls K C ∧ NoAttr K C f ∧ fs.length < 1000 ∧ t2 D σ (upd H2 a (.ins C dx (putF f y fs)))) E) :
    tSeq (sFld K ta (tCall sp [] E t) f) t2 D σ H := h _ r
theorem keeps_house {T : Txt K mg C CB CG tk} {H H' : Hp} {p dx : Addr} {fs : List (Str × V)} (hp : H p = some (.ins C dx fs)) (k : ∀ b o, H b = some o → b ≠ p → (∀ kvs, o ≠ .dK kvs) → H' b = some o) : Keeps CB H H' := fun a dx' fs' z => by
  refine k a _ z (fun c => ?_) fun kvs q => by cases q
  rw [c, hp] at z
  exact absurd (HO.ins.inj (Option.some.inj z)).1 T.ne
theorem aged_fields (h : House) (now : Nat) (d1 d2 d3 : Addr) : hF (moved h now) d1 d2 d3 = hF (h.aged now) d1 d2 d3 := rfl
theorem ok_age {f : Addr} {fd : FuncData} {f1 f2 f3 : Addr} {fd1 fd2 fd3 : FuncData} (F : Fun K "age" "House.age" sAge f fd) (T : Txt K mg C CB CG tk) (Q_move_edges : Mth P w K mg base C "move_edges" 2 ["self", "now"] (spMove C) f1 fd1) (Q_forget_larger : Mth P w K mg base C "forget_larger" 1 ["self"] (spForget C CB) f2 fd2)
    (G_put_into_stretches : Def P w K mg base "put_into_stretches" 4 ["finer", "coarser", "edge", "width"] (spPut CB) f3 fd3) : FnOk P w K mg base CX0 5 f fd ["self", "now"] (spAge C CB) := by
  refine F.ok scAge (fun vs H Q E h => ?_) (fun cdv A outer s H vs Q E hr_put_into_stretches h => ?_)
  · obtain ⟨p, h, s, b, l, now, rfl, _⟩ := h
    rfl
  · obtain ⟨p, h, s, b, l, now, rfl, B, q⟩ := h
    have hr_move_edges : Room 2 _ := hr_put_into_stretches.mono (by decide)
    have hr_forget_larger : Room 1 _ := hr_put_into_stretches.mono (by decide)
    obtain ⟨d1, d2, d3, ⟨dx, hp⟩, D1, D2, D3, n12, n13, n23⟩ := B.at_.ex
    have G := B.good
    refine ⟨_, (pss_cons (ps_if (pt_cmpR op_gt (pv 1) (pe_glob (v := .int 2000000) rfl T.c_LATEST_NOW ⟨_, rfl⟩) (nomark _)) (pss_one (ps_ret (pe_lst (pa_cons (pe_un un_neg pe_int) pa_nil)))) pss_nil) (pss_cons (ps_expr (pe_meth (pv 0) T.cl Q_move_edges.m Q_move_edges.ok hr_move_edges Q_move_edges.b .nil pass0 (pa_cons (pv 1) pa_nil))) (pss_cons (ps_fld (pv 0) (pe_call G_put_into_stretches.ok hr_put_into_stretches rfl G_put_into_stretches.mgf G_put_into_stretches.kp G_put_into_stretches.b .nil pass0 (pa_cons (pe_fld (pv 0) rfl) (pa_cons (pe_fld (pv 0) rfl) (pa_cons (pe_fld (pv 0) rfl) (pa_cons (pe_fld (pv 0) rfl) pa_nil))))) rfl) (pss_cons (ps_fld (pv 0) (pe_call G_put_into_stretches.ok hr_put_into_stretches rfl G_put_into_stretches.mgf G_put_into_stretches.kp G_put_into_stretches.b .nil pass0 (pa_cons (pe_fld (pv 0) rfl) (pa_cons (pe_fld (pv 0) rfl) (pa_cons (pe_fld (pv 0) rfl) (pa_cons (pe_fld (pv 0) rfl) pa_nil))))) rfl) (pss_cons (ps_expr (pe_meth0 (pv 0) T.cl Q_forget_larger.m Q_forget_larger.ok hr_forget_larger Q_forget_larger.b .nil pass0)) (pss_one (ps_ret (pe_lst (pa_cons (pe_callB call_lenD (by rfl) T.b_len PySem.boot_len (pa_cons (pe_fld (pv 0) rfl) pa_nil)) (pa_cons (pe_callB call_lenD (by rfl) T.b_len PySem.boot_len (pa_cons (pe_fld (pv 0) rfl) pa_nil)) (pa_cons (pe_callB call_lenD (by rfl) T.b_len PySem.boot_len (pa_cons (pe_fld (pv 0) rfl) pa_nil)) pa_nil))))))))))), ?_⟩
    have hT : 2 * Sq38.TIME = 2000000 := rfl
    refine sq_if (ans_test (val_i (val_var rfl) val_c)) (fun e => ?_) (fun e => ?_)
    · have c : 2 * Sq38.TIME < now := by have := of_decide_eq_true e; omega
      refine st_retLst (va_cons (val_neg val_c) va_nil) (few_s (by decide)) fun r hr => ?_
      have st : h.step (.age now) = (h, Sq38.says (-1)) := if_pos c
      exact After.still (zs := [-1]) B q (by rw [st]) (by unfold outs; rw [st]; rfl) hr
    · have c : ¬ 2 * Sq38.TIME < now := by have := of_decide_eq_false e; omega
      have st : h.step (.age now) = (h.aged now, ⟨(h.aged now).raw.length, Sq38.ints [(h.aged now).small.length, (h.aged now).large.length]⟩) := if_neg c
      have ln := B.len
      have nds : ND s := (raw_nd G.rawS).perm G.raw.symm
      have ndb : ND b := G.sm.nd G.w0
      have ndl : ND l := G.lg.nd G.v0
      -- self.move_edges(now)
      refine sq_meth (val_var rfl) hp (hF_no _ _ _ _ (by decide +kernel)) (va_cons (val_var rfl) va_nil) ?_
      refine ⟨p, h, d1, d2, d3, now, rfl, ⟨dx, hp⟩, G.w0, G.w1, G.v0, G.v1, fun H1 A1 b1 => ?_⟩
      obtain ⟨dx1, hp1⟩ := A1
      rw [aged_fields] at hp1
      have A1 : HsAt C H1 p (h.aged now) d1 d2 d3 := ⟨dx1, hp1⟩
      have pd : ∀ {d : Addr} {m : D}, DictAt CB H d m → d ≠ p := fun ⟨kvs, z, _⟩ => ne_of z hp (by intro z; cases z)
      have kp1 : Keeps CB H H1 := keeps_house (T := T) hp fun b o z n _ => by rw [b1 b n]; exact z
      have D1a : DictAt CB H1 d1 s := D1.keep kp1 fun o z => by rw [b1 _ (pd D1)]; exact z
      have D2a : DictAt CB H1 d2 b := D2.keep kp1 fun o z => by rw [b1 _ (pd D2)]; exact z
      have D3a : DictAt CB H1 d3 l := D3.keep kp1 fun o z => by rw [b1 _ (pd D3)]; exact z
      -- self.samples = put_into_stretches(self.samples, self.buckets, self.e0, self.width)
      refine sq_fldCall (va_cons (val_h T.cl A1 T.hs (hF_s _ _ _ _) (val_var rfl)) (va_cons (val_h T.cl A1 T.hb (hF_b _ _ _ _) (val_var rfl)) (va_cons (val_h T.cl A1 T.x0 (hF_e0 _ _ _ _) (val_var rfl)) (va_cons (val_h T.cl A1 T.hw (hF_w _ _ _ _) (val_var rfl)) va_nil)))) ?_
      refine ⟨d1, d2, (h.aged now).edge0, h.width, s, b, rfl, n12, D1a, D2a, nds, ndb, G.w0, G.w1, by omega, fun H2 d4 e4 D4 D2b k2 => ?_⟩
      have pd2 : p ≠ d2 := (pd D2).symm
      have pd4 : p ≠ d4 := ne_of_none hp1 e4
      refine ⟨_, rfl, p, C, dx1, _, rfl, k2 _ _ hp1 pd2, T.cl, T.hs, hF_few _ _ _ _, ?_⟩
      rw [hF_ps]
      generalize hH3 : upd H2 p (.ins C dx1 (hF (h.aged now) d4 d2 d3)) = H3
      have hp3 : H3 p = some (.ins C dx1 (hF (h.aged now) d4 d2 d3)) := by rw [← hH3, upd_same]
      have b3 : ∀ x, x ≠ p → H3 x = H2 x := fun x hx => by rw [← hH3, upd_ne hx]
      have A3 : HsAt C H3 p (h.aged now) d4 d2 d3 := ⟨dx1, hp3⟩
      have kp3 : Keeps CB H2 H3 := keeps_house (T := T) (k2 _ _ hp1 pd2) fun b o z n _ => by rw [b3 b n]; exact z
      have n34 : d3 ≠ d4 := by obtain ⟨kvs, z, _⟩ := D3a; exact ne_of_none z e4
      have n24 : d2 ≠ d4 := by obtain ⟨kvs, z, _⟩ := D2a; exact ne_of_none z e4
      have kp2 : Keeps CB H1 H2 := fun a dx' fs z => k2 _ _ z (by obtain ⟨kvs, z2, _⟩ := D2a; exact ne_of z z2 (by intro z; cases z))
      have D4b : DictAt CB H3 d4 (stay (h.aged now).edge0 s) := D4.keep kp3 fun o z => by rw [b3 _ pd4.symm]; exact z
      have D2c : DictAt CB H3 d2 (into h.width (h.aged now).edge0 s b) := D2b.keep kp3 fun o z => by rw [b3 _ pd2.symm]; exact z
      have D3b : DictAt CB H3 d3 l := D3a.keep (kp2.trans kp3) fun o z => by rw [b3 _ (pd D3)]; exact k2 _ _ z n23.symm
      -- self.buckets = put_into_stretches(self.buckets, self.larger, self.e1, self.wide)
      have il := into_len h.width (h.aged now).edge0 s b
      refine sq_fldCall (va_cons (val_h T.cl A3 T.hb (hF_b _ _ _ _) (val_var rfl)) (va_cons (val_h T.cl A3 T.hl (hF_l _ _ _ _) (val_var rfl)) (va_cons (val_h T.cl A3 T.x1 (hF_e1 _ _ _ _) (val_var rfl)) (va_cons (val_h T.cl A3 T.hv (hF_v _ _ _ _) (val_var rfl)) va_nil)))) ?_
      refine ⟨d2, d3, (h.aged now).edge1, h.wide, _, l, rfl, n23, D2c, D3b, nd_into _ _ _ ndb, ndl, G.v0, G.v1, by omega, fun H4 d5 e5 D5 D3c k4 => ?_⟩
      have pd3 : p ≠ d3 := (pd D3).symm
      have pd5 : p ≠ d5 := ne_of_none hp3 e5
      refine ⟨_, rfl, p, C, dx1, _, rfl, k4 _ _ hp3 pd3, T.cl, T.hb, hF_few _ _ _ _, ?_⟩
      rw [hF_pb]
      generalize hH5 : upd H4 p (.ins C dx1 (hF (h.aged now) d4 d5 d3)) = H5
      have hp5 : H5 p = some (.ins C dx1 (hF (h.aged now) d4 d5 d3)) := by rw [← hH5, upd_same]
      have b5 : ∀ x, x ≠ p → H5 x = H4 x := fun x hx => by rw [← hH5, upd_ne hx]
      have A5 : HsAt C H5 p (h.aged now) d4 d5 d3 := ⟨dx1, hp5⟩
      have kp5 : Keeps CB H4 H5 := keeps_house (T := T) (k4 _ _ hp3 pd3) fun b o z n _ => by rw [b5 b n]; exact z
      have n35 : d3 ≠ d5 := by obtain ⟨kvs, z, _⟩ := D3b; exact ne_of_none z e5
      have n45 : d4 ≠ d5 := by obtain ⟨kvs, z, _⟩ := D4b; exact ne_of_none z e5
      have kp4 : Keeps CB H3 H4 := fun a dx' fs z => k4 _ _ z (by obtain ⟨kvs, z2, _⟩ := D3b; exact ne_of z z2 (by intro z; cases z))
      have D5b : DictAt CB H5 d5 _ := D5.keep kp5 fun o z => by rw [b5 _ pd5.symm]; exact z
      have D3d : DictAt CB H5 d3 _ := D3c.keep kp5 fun o z => by rw [b5 _ pd3.symm]; exact z
      have D4c : DictAt CB H5 d4 _ := D4b.keep (kp4.trans kp5) fun o z => by rw [b5 _ pd4.symm]; exact k4 _ _ z n34.symm
      -- self.forget_larger()
      have il2 := into_len h.wide (h.aged now).edge1 (into h.width (h.aged now).edge0 s b) l
      refine sq_meth (val_var rfl) hp5 (hF_no _ _ _ _ (by decide +kernel)) va_nil ?_
      refine ⟨p, h.aged now, d4, d5, d3, _, rfl, A5, D3d, nd_into _ _ _ ndl, by omega, fun H6 d6 e6 A6 D6 k6 => ?_⟩
      have n46 : d4 ≠ d6 := by obtain ⟨kvs, z, _⟩ := D4c; exact ne_of_none z e6
      have n56 : d5 ≠ d6 := by obtain ⟨kvs, z, _⟩ := D5b; exact ne_of_none z e6
      have kp6 : Keeps CB H5 H6 := keeps_house (T := T) hp5 fun b o z n _ => k6 b o z n
      have D4d : DictAt CB H6 d4 _ := D4c.keep kp6 fun o z => k6 _ _ z pd4.symm
      have D5c : DictAt CB H6 d5 _ := D5b.keep kp6 fun o z => k6 _ _ z pd5.symm
      have GA := good_aged G now
      have LA := len_aged h.width h.wide (h.aged now).edge0 (h.aged now).edge1 (h.aged now).edge2 s b l
      obtain ⟨kv4, z4, r4⟩ := id D4d
      obtain ⟨kv5, z5, r5⟩ := id D5c
      obtain ⟨kv6, z6, r6⟩ := id D6
      -- return [len(self.samples), len(self.buckets), len(self.larger)]
      refine st_retLst (va_cons (val_lenD (val_h T.cl A6 T.hs (hF_s _ _ _ _) (val_var rfl)) z4) (va_cons (val_lenD (val_h T.cl A6 T.hb (hF_b _ _ _ _) (val_var rfl)) z5) (va_cons (val_lenD (val_h T.cl A6 T.hl (hF_l _ _ _ _) (val_var rfl)) z6) va_nil))) (few_s (by show 3 ≤ 10; decide)) fun r hr => ?_
      have all : ∀ x o, H x = some o → x ≠ p → (∀ kvs, o ≠ .dK kvs) → H6 x = some o := fun x o z n k => by
        have x2 : x ≠ d2 := by obtain ⟨kvs, z2, _⟩ := D2; exact ne_of z z2 (k kvs)
        have x3 : x ≠ d3 := by obtain ⟨kvs, z3, _⟩ := D3; exact ne_of z z3 (k kvs)
        have g1 : H1 x = some o := by rw [b1 x n]; exact z
        have g3 : H3 x = some o := by rw [b3 x n]; exact k2 _ _ g1 x2
        have g5 : H5 x = some o := by rw [b5 x n]; exact k4 _ _ g3 x3
        exact k6 _ _ g5 n
      have hr0 : H r = none := by
        cases z : H r with
        | none => rfl
        | some o =>
          exfalso
          by_cases n : r = p
          · obtain ⟨dy, y⟩ := A6
            rw [n, y] at hr; cases hr
          · have g1 : H1 r = some o := by rw [b1 r n]; exact z
            have t1 : ∃ o', H3 r = some o' := by
              by_cases m : r = d2
              · obtain ⟨kvs, y, _⟩ := D2c
                exact ⟨_, by rw [m]; exact y⟩
              · exact ⟨o, by rw [b3 r n]; exact k2 _ _ g1 m⟩
            obtain ⟨o3, t1⟩ := t1
            have t2 : ∃ o', H5 r = some o' := by
              by_cases m : r = d3
              · obtain ⟨kvs, y, _⟩ := D3d
                exact ⟨_, by rw [m]; exact y⟩
              · exact ⟨o3, by rw [b5 r n]; exact k4 _ _ t1 m⟩
            obtain ⟨o5, t2⟩ := t2
            rw [k6 r o5 t2 n] at hr
            cases hr
      have HA : HouseAt C CB H6 p (h.aged now) _ _ _ := ⟨d4, d5, d6, A6, D4d, D5c, D6, n45, n46, n56⟩
      refine q _ r _ _ _ (by rw [st]; exact HA.same (same_new hr)) (by rw [st]; exact GA) (by rw [st]; exact spans_aged G B.spans now (by omega)) (Nat.le_succ_of_le LA) hr0 ?_ fun x o z n k => ?_
      · unfold outs
        rw [st, upd_same, r4.len, r5.len, r6.len, GA.len, GA.sm.len, GA.lg.len]
        rfl
      · rw [upd_ne (ne_of_none (all x o z n k) hr)]
        exact all x o z n k
end
end Ck

set_option Elab.async false
set_option linter.all false
set_option maxRecDepth 100000
set_option maxHeartbeats 400000
namespace Ck
open PySem PySem.Spec PyProof.Rows L2 CkL
open Sq38 (Bucket House)
abbrev sKept : Stmt := (inClass (top 21) 13)
abbrev sRefused : Stmt := (inClass (top 21) 12)
abbrev sHow : Stmt := (inClass (top 21) 7)
abbrev sCome : Stmt := (inClass (top 21) 8)
abbrev sTop : Stmt := (inClass (top 21) 9)
abbrev sEdges : Stmt := (inClass (top 21) 10)
/-- a list of buckets -/
inductive RepL (CB : Addr) (H : Hp) : List V → List Bucket → Prop where
  | nil : RepL CB H [] []
  | cons {a : Addr} {b : Bucket} {vs : List V} {l : List Bucket} (h : BkAt CB H a b) (r : RepL CB H vs l) : RepL CB H (.ref a :: vs) (b :: l)
theorem RepL.keep {CB : Addr} {H H' : Hp} (k : Keeps CB H H') : ∀ {vs : List V} {l : List Bucket}, RepL CB H vs l → RepL CB H' vs l
  | _, _, .nil => .nil
  | _, _, .cons h r => .cons (k.bk h) (r.keep k)
theorem RepL.len {CB : Addr} {H : Hp} : ∀ {vs : List V} {l : List Bucket}, RepL CB H vs l → vs.length = l.length
  | _, _, .nil => rfl
  | _, _, .cons _ r => congrArg (· + 1) r.len
theorem RepL.append {CB : Addr} {H : Hp} {us : List V} {m : List Bucket} (x : RepL CB H us m) : ∀ {vs : List V} {l : List Bucket}, RepL CB H vs l → RepL CB H (vs ++ us) (l ++ m)
  | _, _, .nil => x
  | _, _, .cons h r => .cons h (RepL.append x r)
theorem Rep.vals {CB : Addr} {H : Hp} : ∀ {kvs : List (Key × V)} {l : D}, Rep CB H kvs l → RepL CB H (kvs.map (·.2)) (l.map (·.2))
  | _, _, .nil => .nil
  | _, _, .cons h r => .cons h r.vals
theorem RepL.at {CB : Addr} {H : Hp} : ∀ {vs : List V} {l : List Bucket}, RepL CB H vs l → ∀ {i : Nat} {v : V}, vs[i]? = some v → ∃ a b, v = .ref a ∧ l[i]? = some b ∧ BkAt CB H a b
  | _, _, .nil, _, _, e => by cases e
  | _, _, .cons (a := a) (b := b) h _, 0, _, e => ⟨a, b, (Option.some.inj e).symm, rfl, h⟩
  | _, _, .cons _ r, i + 1, _, e => r.at (i := i) e
def spKept (C CB : Addr) : Sp := fun vs H Q _ => ∃ (p : Addr) (h : House) (s b l : D), vs = [.ref p] ∧ HouseAt C CB H p h s b l ∧ s.length + b.length + l.length ≤ 1199 ∧
  ∀ (H' : Hp) (r : Addr) (us : List V), Same H H' → H' r = some (.lst us) → RepL CB H' us (kept s b l) → Q (.ref r) H'
def refd (h : House) (a c : Nat) : Int := if c ≤ a then -1 else if a < h.edge2 then -3 else 0
def spRefused (C : Addr) : Sp := fun vs H Q _ => ∃ (p : Addr) (h : House) (d1 d2 d3 : Addr) (a c : Nat), vs = [.ref p, .int a, .int c] ∧ HsAt C H p h d1 d2 d3 ∧ Q (.int (refd h a c)) H
def spHow (C CB : Addr) : Sp := fun vs H Q _ => ∃ (p : Addr) (h : House) (s b l : D) (a c : Nat), vs = [.ref p, .int a, .int c] ∧ Before C CB H p h s b l ∧ After C CB H p (.count a c) h s b l Q
def spCome (C CB : Addr) : Sp := fun vs H Q _ => ∃ (p : Addr) (h : House) (s b l : D) (a c : Nat), vs = [.ref p, .int a, .int c] ∧ Before C CB H p h s b l ∧ After C CB H p (.sum a c) h s b l Q
def spTop (C CB : Addr) : Sp := fun vs H Q _ => ∃ (p : Addr) (h : House) (s b l : D) (a c : Nat), vs = [.ref p, .int a, .int c] ∧ Before C CB H p h s b l ∧ After C CB H p (.most a c) h s b l Q
def spEdges (C CB : Addr) : Sp := fun vs H Q _ => ∃ (p : Addr) (h : House) (s b l : D), vs = [.ref p] ∧ Before C CB H p h s b l ∧ After C CB H p .edges h s b l Q
theorem refd_cases (h : House) (a c : Nat) (f : House × Sq38.Out) : (refd h a c < 0 ∧ h.asked a c f = (h, Sq38.says (refd h a c))) ∨ (refd h a c = 0 ∧ ¬ c ≤ a ∧ ¬ a < h.edge2 ∧ h.asked a c f = f) := by
  unfold refd Sq38.House.asked
  by_cases c1 : c ≤ a
  · rw [if_pos c1, if_pos c1]; exact .inl ⟨by decide, rfl⟩
  · rw [if_neg c1, if_neg c1]
    by_cases c2 : a < h.edge2
    · rw [if_pos c2, if_pos c2]; exact .inl ⟨by decide, rfl⟩
    · rw [if_neg c2, if_neg c2]; exact .inr ⟨rfl, c1, c2, rfl⟩
section
variable {P : Program} {w : World} {K : PySem.W.Frag} {mg : Str → Option Value} {base : Heap} {C CB CG : Addr} {tk : Nat → Tok}
theorem rd_vals {σ : L2.St} {H : Hp} {te : TE} {d : Addr} {kvs : List (Key × V)} {Q : VK} (h : Val te σ H (.ref d)) (hd : H d = some (.dK kvs)) (r : ∀ p H', H p = none → H' p = some (.lst (kvs.map (·.2))) → Same H H' → Q (.ref p) H') : tListVals te σ H Q :=
  h _ ⟨d, kvs, rfl, hd, fun p hp => r p _ hp upd_same (same_new hp)⟩
theorem rd_cat {H : Hp} {x y : Addr} {xs ys : List V} {Q : VK} (hx : H x = some (.lst xs)) (hy : H y = some (.lst ys)) (hl : xs.length + ys.length ≤ sizeLine) (r : ∀ p H', H p = none → H' p = some (.lst (xs ++ ys)) → Same H H' → Q (.ref p) H') : rCat (.ref x) (.ref y) H Q :=
  ⟨x, y, xs, ys, rfl, rfl, hx, hy, hl, fun p hp => r p _ hp upd_same (same_new hp)⟩
theorem HsAt.same {H H' : Hp} {p d1 d2 d3 : Addr} {h : House} (x : HsAt C H p h d1 d2 d3) (s : Same H H') : HsAt C H' p h d1 d2 d3 := by
  obtain ⟨dx, x⟩ := x
  exact ⟨dx, s _ _ x⟩
theorem scKept : FnScope ["self"] ["self"] (defScope sKept) := ⟨rfl, rfl, rfl, by decide +kernel, rfl, by decide +kernel, by decide +kernel⟩
theorem ok_kept {f : Addr} {fd : FuncData} (F : Fun K "kept" "House.kept" sKept f fd) (T : Txt K mg C CB CG tk) : FnOk P w K mg base CX0 1 f fd ["self"] (spKept C CB) := by
  refine F.ok scKept (fun vs H Q E h => ?_) (fun cdv A outer s H vs Q E hr h => ?_)
  · obtain ⟨p, h, s, b, l, rfl, _⟩ := h
    rfl
  · obtain ⟨p, h, s, b, l, rfl, ⟨d1, d2, d3, A0, ⟨kv1, h1, r1⟩, ⟨kv2, h2, r2⟩, ⟨kv3, h3, r3⟩, _⟩, hl, q⟩ := h
    refine ⟨_, (pss_one (ps_ret (pe_op op_cat (pe_op op_cat (pe_listVals rfl (pe_fld (pv 0) rfl) (by rfl) T.b_list boot_list) (pe_listVals rfl (pe_fld (pv 0) rfl) (by rfl) T.b_list boot_list)) (pe_listVals rfl (pe_fld (pv 0) rfl) (by rfl) T.b_list boot_list)))), ?_⟩
    have l1 := r1.len
    have l2 := r2.len
    have l3 := r3.len
    refine rd_vals (val_h T.cl A0 T.hl (hF_l _ _ _ _) (val_var rfl)) h3 fun p1 H1 n1 z1 s1 => ?_
    refine rd_vals (val_h T.cl (A0.same s1) T.hb (hF_b _ _ _ _) (val_var rfl)) (s1 _ _ h2) fun p2 H2 n2 z2 s2 => ?_
    refine rd_cat (s2 _ _ z1) z2 (Nat.le_of_lt (line1200 (by rw [List.length_map, List.length_map]; omega))) fun p3 H3 n3 z3 s3 => ?_
    have s03 : Same H H3 := (s1.trans s2).trans s3
    refine rd_vals (val_h T.cl (A0.same s03) T.hs (hF_s _ _ _ _) (val_var rfl)) (s03 _ _ h1) fun p4 H4 n4 z4 s4 => ?_
    refine rd_cat (s4 _ _ z3) z4 (Nat.le_of_lt (line1200 (by rw [List.length_append, List.length_map, List.length_map, List.length_map]; omega))) fun p5 H5 n5 z5 s5 => ?_
    have s05 : Same H H5 := (s03.trans s4).trans s5
    have kp : Keeps CB H H5 := Ck.Same.keeps s05
    refine q H5 p5 _ s05 z5 ?_
    exact RepL.append (r1.vals.keep kp) (RepL.append (r2.vals.keep kp) (r3.vals.keep kp))
theorem scRefused : FnScope ["self", "a", "c"] ["self", "a", "c"] (defScope sRefused) := ⟨rfl, rfl, rfl, by decide +kernel, rfl, by decide +kernel, by decide +kernel⟩
theorem ok_refused {f : Addr} {fd : FuncData} (F : Fun K "refused_stretch" "House.refused_stretch" sRefused f fd) (T : Txt K mg C CB CG tk) : FnOk P w K mg base CX0 1 f fd ["self", "a", "c"] (spRefused C) := by
  refine F.ok scRefused (fun vs H Q E h => ?_) (fun cdv A outer s H vs Q E hr h => ?_)
  · obtain ⟨p, h, d1, d2, d3, a, c, rfl, _⟩ := h
    rfl
  · obtain ⟨p, h, d1, d2, d3, a, c, rfl, A0, q⟩ := h
    refine ⟨_, (pss_cons (ps_if (pt_cmpR op_le (pv 2) (pv 1) (nomark _)) (pss_one (ps_ret (pe_un un_neg pe_int))) pss_nil) (pss_cons (ps_if (pt_cmpR op_lt (pv 1) (pe_fld (pv 0) rfl) (nomark _)) (pss_one (ps_ret (pe_un un_neg pe_int))) pss_nil) (pss_one (ps_ret pe_int)))), ?_⟩
    unfold refd at q
    refine sq_if (ans_test (val_i (val_var rfl) (val_var rfl))) (fun e => ?_) (fun e => ?_)
    · rw [if_pos (by have := of_decide_eq_true e; omega)] at q
      exact st_ret (val_neg val_c) q
    · rw [if_neg (by have := of_decide_eq_false e; omega)] at q
      refine sq_if (ans_test (val_i (val_var rfl) (val_h T.cl A0 T.x2 (hF_e2 _ _ _ _) (val_var rfl)))) (fun e => ?_) (fun e => ?_)
      · rw [if_pos (by have := of_decide_eq_true e; omega)] at q
        exact st_ret (val_neg val_c) q
      · rw [if_neg (by have := of_decide_eq_false e; omega)] at q
        exact st_ret val_c q
/-- a comprehension over a list that a method gives back -/
theorem rd_lcM {σ : L2.St} {H : Hp} {m : Str} {sp : Sp} {E : XK} {ta te : TE} {t : TA} {g : TG} {tt : TT} {ws : List Nat} {p dx : Addr} {fs : List (Str × V)} {vs : List V} {Q : VK} (ha : Val ta σ H (.ref p)) (hp : H p = some (.ins C dx fs)) (hn : fs.lookup m = none) (ht : ValA t σ H vs)
    (r : sp (.ref p :: (vs ++ [])) H (fun x H1 => tLc (iList K (tC x)) g tt te ws σ H1 Q) E) : tLc (iList K (tMeth C m sp [] E ta t)) g tt te ws σ H Q := ha _ ⟨p, dx, fs, rfl, hp, hn, ht _ r⟩
theorem sq_setLcM {D : Ends} {σ : L2.St} {H : Hp} {m : Str} {sp : Sp} {E : XK} {ta te : TE} {t : TA} {g : TG} {tt : TT} {t2 : TS} {i : Nat} {ws : List Nat} {p dx : Addr} {fs : List (Str × V)} {vs : List V} (ha : Val ta σ H (.ref p)) (hp : H p = some (.ins C dx fs)) (hn : fs.lookup m = none) (ht : ValA t σ H vs)
    (r : sp (.ref p :: (vs ++ [])) H (fun x H1 => tLc (iList K (tC x)) g tt te ws σ H1 (fun y H2 => t2 D (σ.set i (some y)) H2)) E) : tSeq (tAsg (tLc (iList K (tMeth C m sp [] E ta t)) g tt te ws) (gName i)) t2 D σ H := ha _ ⟨p, dx, fs, rfl, hp, hn, ht _ r⟩
theorem st_retCallLcM {D : Ends} {σ : L2.St} {H : Hp} {m : Str} {sp sp2 : Sp} {E E2 : XK} {ta te : TE} {t : TA} {g : TG} {tt : TT} {ws : List Nat} {p dx : Addr} {fs : List (Str × V)} {vs : List V} (ha : Val ta σ H (.ref p)) (hp : H p = some (.ins C dx fs)) (hn : fs.lookup m = none) (ht : ValA t σ H vs)
    (r : sp (.ref p :: (vs ++ [])) H (fun x H1 => tLc (iList K (tC x)) g tt te ws σ H1 (fun y H2 => sp2 [y] H2 D.rt E2)) E) : tRet (tCall sp2 [] E2 (tCons (tLc (iList K (tMeth C m sp [] E ta t)) g tt te ws) tNil)) D σ H := ha _ ⟨p, dx, fs, rfl, hp, hn, ht _ r⟩
/-- of each bucket a tuple of two numbers -/
theorem rd_pairs {σ : L2.St} {H : Hp} {a : Addr} {us : List V} {bs : List Bucket} {te : TE} {j : Nat} {Q : VK} (g : Bucket → Nat × Nat) (ha : H a = some (.lst us)) (R : RepL CB H us bs) (hl : us.length ≤ 1200) (wj : ∀ v, wipe ((wipe σ [j]).set j (some v)) [j] = wipe σ [j])
    (turn : ∀ (x : Bucket) (p : Addr) (H' : Hp), x ∈ bs → BkAt CB H' p x → ∀ Qv : VK, (∀ (t : Addr) (H2 : Hp), Same H' H2 → H' t = none → H2 t = some (.tup [.int (g x).1, .int (g x).2]) → Qv (.ref t) H2) → te ((wipe σ [j]).set j (some (.ref p))) H' Qv)
    (q : ∀ (D : Addr) (H' : Hp) (ts : List V), Same H H' → H' D = some (.lst ts) → RepT H' ts (bs.map g) → Q (.ref D) H') : tLc (iList K (tC (.ref a))) (gName j) tYes te [j] σ H Q := by
  refine ⟨a, rfl, ⟨us, SqL.of ha⟩, fun D hD => lc_list (K := K) (a := a) (xs := us) (fun i H' => Same H H' ∧ ∃ ts, H' D = some (.lst ts) ∧ RepT H' ts ((bs.take i).map g)) ⟨same_new hD, [], upd_same, .nil⟩ (fun i H' _ p => SqL.of (p.1 _ _ ha)) (fun i x H' hi p => ?_) (fun H' p => ?_)⟩
  · obtain ⟨s2, ts, hD', rt⟩ := p
    obtain ⟨ad, bk, rfl, hb, hbk⟩ := R.at hi
    have li : i < us.length := (List.getElem?_eq_some_iff.mp hi).1
    refine ⟨wj _, lc_yes (turn bk ad H' (List.mem_of_getElem? hb) ((Ck.Same.keeps s2).bk hbk) _ fun t H2 s3 ht h2 => ?_)⟩
    refine ⟨ts, s3 _ _ hD', ?_, same_upd (s2.trans s3) hD, _, upd_same, ?_⟩
    · rw [rt.len, List.length_map, List.length_take]
      have : (1200 : Nat) < sizeLine := by decide
      omega
    · rw [take_more hb, List.map_append]
      exact ((rt.same s3).snoc h2).off (s3 _ _ hD')
  · obtain ⟨s2, ts, hD', rt⟩ := p
    rw [R.len, List.take_length] at rt
    exact q D H' ts s2 hD' rt
theorem kept_len {s b l : D} (h : s.length + b.length + l.length ≤ 1199) : (kept s b l).length ≤ 1200 := by
  unfold kept
  rw [List.length_append, List.length_append, List.length_map, List.length_map, List.length_map]
  omega
theorem scHow : FnScope ["self", "a", "c", "refused", "one"] ["self", "a", "c"] (defScope sHow) := ⟨rfl, rfl, rfl, by decide +kernel, rfl, by decide +kernel, by decide +kernel⟩
theorem ok_how {f : Addr} {fd : FuncData} {f1 f2 f3 f4 : Addr} {fd1 fd2 fd3 fd4 : FuncData} (F : Fun K "how_many" "House.how_many" sHow f fd) (T : Txt K mg C CB CG tk) (Q_refused_stretch : Mth P w K mg base C "refused_stretch" 1 ["self", "a", "c"] (spRefused C) f1 fd1) (Q_kept : Mth P w K mg base C "kept" 1 ["self"] (spKept C CB) f2 fd2) (G_number_bounds : Def P w K mg base "number_bounds" 3 ["bucket", "a", "c"] (spNumber CB) f3 fd3) (G_added_up : Def P w K mg base "added_up" 1 ["pairs"] spAdded f4 fd4) :
    FnOk P w K mg base CX0 5 f fd ["self", "a", "c"] (spHow C CB) := by
  refine F.ok scHow (fun vs H Q E h => ?_) (fun cdv A outer s H vs Q E hr_ h => ?_)
  · obtain ⟨p, h, s, b, l, a, c, rfl, _⟩ := h
    rfl
  · obtain ⟨p, h, s, b, l, a, c, rfl, B, q⟩ := h
    have hr_kept : Room 1 _ := hr_.mono (by decide)
    have hr_added_up : Room 1 _ := hr_.mono (by decide)
    have hr_refused_stretch : Room 1 _ := hr_.mono (by decide)
    have hr_number_bounds : Room 3 _ := hr_.mono (by decide)
    obtain ⟨d1, d2, d3, A0, _⟩ := B.at_.ex
    obtain ⟨dx, hp⟩ := id A0
    refine ⟨_, (pss_cons (ps_set (i := 3) scHow.nd rfl (Or.inl rfl) (pe_meth (pv 0) T.cl Q_refused_stretch.m Q_refused_stretch.ok hr_refused_stretch Q_refused_stretch.b .nil pass0 (pa_cons (pv 1) (pa_cons (pv 2) pa_nil)))) (pss_cons (ps_if (pt_cmpR op_lt (pv 3) pe_int (nomark _)) (pss_one (ps_ret (pe_lst (pa_cons (pv 3) pa_nil)))) pss_nil) (pss_one (ps_ret (pe_call G_added_up.ok hr_added_up rfl G_added_up.mgf G_added_up.kp G_added_up.b .nil pass0 (pa_cons (pe_lc (own := [("one", 4)]) (g := gName 4) (tt := tYes) rfl scHow.nd (pi_list (pe_meth0 (pv 0) T.cl Q_kept.m Q_kept.ok hr_kept Q_kept.b .nil pass0)) (blkOk_by (own := [("one", 4)]) (N := ["self", "a", "c", "refused", "one"]) (sc := defScope sHow) (by decide +kernel)) (fun _ _ _ _ _ => (pg_name (i := 4) scHow.nd rfl (Or.inl rfl))) (fun _ _ _ _ _ => pts_nil) (fun _ _ _ _ _ => (pe_call G_number_bounds.ok hr_number_bounds rfl G_number_bounds.mgf G_number_bounds.kp G_number_bounds.b .nil pass0 (pa_cons (pv 4) (pa_cons (pv 1) (pa_cons (pv 2) pa_nil)))))) pa_nil)))))), ?_⟩
    refine sq_set (v := .int (refd h a c)) (val_meth (val_var rfl) hp (hF_no _ _ _ _ (by decide +kernel)) (va_cons (val_var rfl) (va_cons (val_var rfl) va_nil)) fun Q q => ⟨p, h, d1, d2, d3, a, c, rfl, A0, q⟩) ?_
    rcases refd_cases h a c (h, ⟨(h.count a c).1, [((h.count a c).2 : Int)]⟩) with ⟨c0, st⟩ | ⟨c0, _, _, st⟩
    · refine sq_if (ans_test (val_i (val_var rfl) val_c)) (fun e => ?_) (fun e => absurd c0 (of_decide_eq_false e))
      refine st_retLst (va_cons (val_var rfl) va_nil) (few_s (by show 1 ≤ 10; decide)) fun r hr => ?_
      have st : h.step (.count a c) = (h, Sq38.says (refd h a c)) := st
      exact After.still (zs := [refd h a c]) B q (by rw [st]) (by unfold outs; rw [st]; rfl) hr
    · refine sq_if (ans_test (val_i (val_var rfl) val_c)) (fun e => absurd (of_decide_eq_true e) (by rw [c0]; decide)) (fun e => ?_)
      have st : h.step (.count a c) = (h, ⟨(h.count a c).1, [((h.count a c).2 : Int)]⟩) := st
      refine st_retCallLcM (val_var rfl) hp (hF_no _ _ _ _ (by decide +kernel)) va_nil ⟨p, h, s, b, l, rfl, B.at_, B.len, fun H1 r us s1 hr ru => ?_⟩
      have hl : us.length ≤ 1200 := by rw [ru.len]; exact kept_len B.len
      refine rd_pairs (fun x => Sq38.counts x a c) hr ru hl (fun _ => rfl) (fun x ad H' hx hb Qv qv => ?_) fun D2 H2 ts s2 h2 rt => ?_
      · refine (va_cons (val_var rfl) (va_cons (val_var rfl) (va_cons (val_var rfl) va_nil))) _ ⟨ad, x, a, c, rfl, hb, fun t ht => qv t _ (same_new ht) ht ?_⟩
        obtain ⟨e1, e2⟩ := nb_counts x (B.good.ok x hx).n1 a c
        rw [upd_same, e1, e2]
      · refine ⟨D2, ts, _, rfl, h2, rt, by rw [rt.len, List.length_map, ← ru.len]; exact hl, fun H3 r3 s3 hr3 z3 => ?_⟩
        obtain ⟨t1, t2⟩ := tally_cols (fun x => Sq38.counts x a c) (kept s b l)
        refine After.still3 (zs := [((h.count a c).1 : Int), ((h.count a c).2 : Int)]) B q (by rw [st]) (by unfold outs; rw [st]) ((s1.trans s2).trans s3) ((s1.trans s2).free hr3) ?_
        rw [z3, B.good.count]
        unfold col1 col2
        rw [t1, t2]
        rfl
theorem scCome : FnScope ["self", "a", "c", "refused", "one"] ["self", "a", "c"] (defScope sCome) := ⟨rfl, rfl, rfl, by decide +kernel, rfl, by decide +kernel, by decide +kernel⟩
theorem ok_come {f : Addr} {fd : FuncData} {f1 f2 f3 f4 : Addr} {fd1 fd2 fd3 fd4 : FuncData} (F : Fun K "what_they_come_to" "House.what_they_come_to" sCome f fd) (T : Txt K mg C CB CG tk) (Q_refused_stretch : Mth P w K mg base C "refused_stretch" 1 ["self", "a", "c"] (spRefused C) f1 fd1) (Q_kept : Mth P w K mg base C "kept" 1 ["self"] (spKept C CB) f2 fd2) (G_sum_bounds : Def P w K mg base "sum_bounds" 4 ["bucket", "a", "c"] (spSumB CB) f3 fd3) (G_added_up : Def P w K mg base "added_up" 1 ["pairs"] spAdded f4 fd4) :
    FnOk P w K mg base CX0 5 f fd ["self", "a", "c"] (spCome C CB) := by
  refine F.ok scCome (fun vs H Q E h => ?_) (fun cdv A outer s H vs Q E hr_ h => ?_)
  · obtain ⟨p, h, s, b, l, a, c, rfl, _⟩ := h
    rfl
  · obtain ⟨p, h, s, b, l, a, c, rfl, B, q⟩ := h
    have hr_kept : Room 1 _ := hr_.mono (by decide)
    have hr_added_up : Room 1 _ := hr_.mono (by decide)
    have hr_refused_stretch : Room 1 _ := hr_.mono (by decide)
    have hr_sum_bounds : Room 4 _ := hr_.mono (by decide)
    obtain ⟨d1, d2, d3, A0, _⟩ := B.at_.ex
    obtain ⟨dx, hp⟩ := id A0
    refine ⟨_, (pss_cons (ps_set (i := 3) scCome.nd rfl (Or.inl rfl) (pe_meth (pv 0) T.cl Q_refused_stretch.m Q_refused_stretch.ok hr_refused_stretch Q_refused_stretch.b .nil pass0 (pa_cons (pv 1) (pa_cons (pv 2) pa_nil)))) (pss_cons (ps_if (pt_cmpR op_lt (pv 3) pe_int (nomark _)) (pss_one (ps_ret (pe_lst (pa_cons (pv 3) pa_nil)))) pss_nil) (pss_one (ps_ret (pe_call G_added_up.ok hr_added_up rfl G_added_up.mgf G_added_up.kp G_added_up.b .nil pass0 (pa_cons (pe_lc (own := [("one", 4)]) (g := gName 4) (tt := tYes) rfl scCome.nd (pi_list (pe_meth0 (pv 0) T.cl Q_kept.m Q_kept.ok hr_kept Q_kept.b .nil pass0)) (blkOk_by (own := [("one", 4)]) (N := ["self", "a", "c", "refused", "one"]) (sc := defScope sCome) (by decide +kernel)) (fun _ _ _ _ _ => (pg_name (i := 4) scCome.nd rfl (Or.inl rfl))) (fun _ _ _ _ _ => pts_nil) (fun _ _ _ _ _ => (pe_call G_sum_bounds.ok hr_sum_bounds rfl G_sum_bounds.mgf G_sum_bounds.kp G_sum_bounds.b .nil pass0 (pa_cons (pv 4) (pa_cons (pv 1) (pa_cons (pv 2) pa_nil)))))) pa_nil)))))), ?_⟩
    refine sq_set (v := .int (refd h a c)) (val_meth (val_var rfl) hp (hF_no _ _ _ _ (by decide +kernel)) (va_cons (val_var rfl) (va_cons (val_var rfl) va_nil)) fun Q q => ⟨p, h, d1, d2, d3, a, c, rfl, A0, q⟩) ?_
    rcases refd_cases h a c (h, ⟨(h.sum a c).1, [((h.sum a c).2 : Int)]⟩) with ⟨c0, st⟩ | ⟨c0, _, _, st⟩
    · refine sq_if (ans_test (val_i (val_var rfl) val_c)) (fun e => ?_) (fun e => absurd c0 (of_decide_eq_false e))
      refine st_retLst (va_cons (val_var rfl) va_nil) (few_s (by show 1 ≤ 10; decide)) fun r hr => ?_
      have st : h.step (.sum a c) = (h, Sq38.says (refd h a c)) := st
      exact After.still (zs := [refd h a c]) B q (by rw [st]) (by unfold outs; rw [st]; rfl) hr
    · refine sq_if (ans_test (val_i (val_var rfl) val_c)) (fun e => absurd (of_decide_eq_true e) (by rw [c0]; decide)) (fun e => ?_)
      have st : h.step (.sum a c) = (h, ⟨(h.sum a c).1, [((h.sum a c).2 : Int)]⟩) := st
      refine st_retCallLcM (val_var rfl) hp (hF_no _ _ _ _ (by decide +kernel)) va_nil ⟨p, h, s, b, l, rfl, B.at_, B.len, fun H1 r us s1 hr ru => ?_⟩
      have hl : us.length ≤ 1200 := by rw [ru.len]; exact kept_len B.len
      refine rd_pairs (fun x => Sq38.sums x a c) hr ru hl (fun _ => rfl) (fun x ad H' hx hb Qv qv => ?_) fun D2 H2 ts s2 h2 rt => ?_
      · exact (va_cons (val_var rfl) (va_cons (val_var rfl) (va_cons (val_var rfl) va_nil))) _ ⟨ad, x, a, c, rfl, hb, B.good.ok x hx, B.good.span B.spans x hx, B.good.few B.spans x hx, fun H2 t s2 ht h2 => qv t H2 s2 ht h2⟩
      · refine ⟨D2, ts, _, rfl, h2, rt, by rw [rt.len, List.length_map, ← ru.len]; exact hl, fun H3 r3 s3 hr3 z3 => ?_⟩
        obtain ⟨t1, t2⟩ := tally_cols (fun x => Sq38.sums x a c) (kept s b l)
        refine After.still3 (zs := [((h.sum a c).1 : Int), ((h.sum a c).2 : Int)]) B q (by rw [st]) (by unfold outs; rw [st]) ((s1.trans s2).trans s3) ((s1.trans s2).free hr3) ?_
        rw [z3, B.good.sum]
        unfold col1 col2
        rw [t1, t2]
        rfl
/-- of each bucket that is wanted its greatest -/
theorem rd_tops {σ : L2.St} {H : Hp} {a : Addr} {us : List V} {bs : List Bucket} {tt : TE} {j : Nat} {Q : VK} (T : Txt K mg C CB CG tk) (x c : Nat) (ha : H a = some (.lst us)) (R : RepL CB H us bs) (hl : us.length ≤ 1200) (wj : ∀ v, wipe ((wipe σ [j]).set j (some v)) [j] = wipe σ [j]) (vj : ∀ v, ((wipe σ [j]).set j (some v))[j]? = some (some v))
    (turn : ∀ (y : Bucket) (p : Addr) (H' : Hp), y ∈ bs → BkAt CB H' p y → ∀ Qv : VK, (∀ H2 : Hp, Same H' H2 → Qv (.bl (decide (0 < (Sq38.counts y x c).2))) H2) → tt ((wipe σ [j]).set j (some (.ref p))) H' Qv)
    (q : ∀ (D : Addr) (H' : Hp), Same H H' → H' D = some (.lst (((tops x c bs).map fun n : Nat => (n : Int)).map V.int)) → Q (.ref D) H') : tLc (iList K (tC (.ref a))) (gName j) (tB tt) (tFld K (tVar j) "greatest") [j] σ H Q := by
  refine ⟨a, rfl, ⟨us, SqL.of ha⟩, fun D hD => lc_list (K := K) (a := a) (xs := us) (fun i H' => Same H H' ∧ H' D = some (.lst (((tops x c (bs.take i)).map fun n : Nat => (n : Int)).map V.int))) ⟨same_new hD, upd_same⟩ (fun i H' _ p => SqL.of (p.1 _ _ ha)) (fun i v H' hi p => ?_) (fun H' p => ?_)⟩
  · obtain ⟨s2, hD'⟩ := p
    obtain ⟨ad, bk, rfl, hb, hbk⟩ := R.at hi
    have li : i < us.length := (List.getElem?_eq_some_iff.mp hi).1
    have tm := tops_more x c (bs.take i) bk
    rw [← take_more hb] at tm
    refine ⟨wj _, turn bk ad H' (List.mem_of_getElem? hb) ((Ck.Same.keeps s2).bk hbk) _ fun H2 s3 => ⟨_, rfl, ?_⟩⟩
    have s4 := s2.trans s3
    by_cases k : 0 < (Sq38.counts bk x c).2
    · rw [if_pos k] at tm
      rw [decide_eq_true k]
      refine iteT (val_bg T ((Ck.Same.keeps s4).bk hbk) (val_var (vj _)) _ ⟨_, s3 _ _ hD', ?_, same_upd s4 hD, ?_⟩)
      · rw [List.length_map, List.length_map]
        unfold tops
        rw [List.length_map]
        have := List.length_filter_le (fun b => decide (0 < (Sq38.counts b x c).2)) (bs.take i)
        rw [List.length_take] at this
        have : (1200 : Nat) < sizeLine := by decide
        omega
      · rw [upd_same, tm, List.map_append, List.map_append]
        rfl
    · rw [if_neg k] at tm
      rw [decide_eq_false k]
      refine iteF ⟨s4, ?_⟩
      rw [tm]
      exact s3 _ _ hD'
  · obtain ⟨s2, hD'⟩ := p
    rw [R.len, List.take_length] at hD'
    exact q D H' s2 hD'
theorem scTop : FnScope ["self", "a", "c", "refused", "found", "one"] ["self", "a", "c"] (defScope sTop) := ⟨rfl, rfl, rfl, by decide +kernel, rfl, by decide +kernel, by decide +kernel⟩
theorem val_lenS {σ : L2.St} {H : Hp} {ta : TE} {d : Addr} {xs : List V} (ha : Val ta σ H (.ref d)) (h : SqL K H d xs) : Val (tCB (fun xs H Q => ∃ p ys, xs = [.ref p] ∧ (SqL K H p ys ∨ SqT K H p ys) ∧ Q (.int ys.length) H) (tCons ta tNil)) σ H (.int xs.length) :=
  val_cb (va_cons ha va_nil) fun Q q => ⟨d, xs, rfl, .inl h, q⟩
theorem st_retOne {D : Ends} {σ : L2.St} {H : Hp} {r : List V → Hp → VK → Prop} {ta : TE} {v : V} (ha : Val ta σ H v) (h : r [v] H (fun u H1 => [u].length ≤ sizeLine ∧ ∀ p, H1 p = none → D.rt (.ref p) (upd H1 p (.lst [u])))) : tRet (tLst (tCons (tCB r (tCons ta tNil)) tNil)) D σ H := ha _ h
theorem max_is {l : List Nat} {m : Int} (h1 : m ∈ l.map fun n : Nat => (n : Int)) (h2 : ∀ y, (y ∈ l.map fun n : Nat => (n : Int)) → y ≤ m) : ∃ k : Nat, m = k ∧ l.max? = some k := by
  obtain ⟨k, hk, rfl⟩ := List.mem_map.mp h1
  refine ⟨k, rfl, List.max?_eq_some_iff.mpr ⟨hk, fun b hb => ?_⟩⟩
  have := h2 b (List.mem_map.mpr ⟨b, hb, rfl⟩)
  omega
theorem ok_top {f : Addr} {fd : FuncData} {f1 f2 f3 : Addr} {fd1 fd2 fd3 : FuncData} (F : Fun K "greatest_there" "House.greatest_there" sTop f fd) (T : Txt K mg C CB CG tk) (Q_refused_stretch : Mth P w K mg base C "refused_stretch" 1 ["self", "a", "c"] (spRefused C) f1 fd1) (Q_kept : Mth P w K mg base C "kept" 1 ["self"] (spKept C CB) f2 fd2) (G_may_lie_within : Def P w K mg base "may_lie_within" 4 ["bucket", "a", "c"] (spMay CB) f3 fd3) :
    FnOk P w K mg base CX0 5 f fd ["self", "a", "c"] (spTop C CB) := by
  refine F.ok scTop (fun vs H Q E h => ?_) (fun cdv A outer s H vs Q E hr_ h => ?_)
  · obtain ⟨p, h, s, b, l, a, c, rfl, _⟩ := h
    rfl
  · obtain ⟨p, h, s, b, l, a, c, rfl, B, q⟩ := h
    have hr_kept : Room 1 _ := hr_.mono (by decide)
    have hr_refused_stretch : Room 1 _ := hr_.mono (by decide)
    have hr_may_lie_within : Room 4 _ := hr_.mono (by decide)
    obtain ⟨d1, d2, d3, A0, _⟩ := B.at_.ex
    obtain ⟨dx, hp⟩ := id A0
    refine ⟨_, (pss_cons (ps_set (i := 3) scTop.nd rfl (Or.inl rfl) (pe_meth (pv 0) T.cl Q_refused_stretch.m Q_refused_stretch.ok hr_refused_stretch Q_refused_stretch.b .nil pass0 (pa_cons (pv 1) (pa_cons (pv 2) pa_nil)))) (pss_cons (ps_if (pt_cmpR op_lt (pv 3) pe_int (nomark _)) (pss_one (ps_ret (pe_lst (pa_cons (pv 3) pa_nil)))) pss_nil) (pss_cons (ps_setLc (i := 4) (own := [("one", 5)]) (g := gName 5) rfl scTop.nd rfl rfl (sw_true rfl rfl rfl (by decide +kernel)) (pi_list (pe_meth0 (pv 0) T.cl Q_kept.m Q_kept.ok hr_kept Q_kept.b .nil pass0)) (blkOk_by (own := [("one", 5)]) (N := ["self", "a", "c", "refused", "found", "one"]) (sc := defScope sTop) (by decide +kernel)) (fun _ _ _ _ _ => (pg_name (i := 5) scTop.nd rfl (Or.inl rfl))) (fun _ _ _ _ _ => (pts_one (pt_val (pe_call G_may_lie_within.ok hr_may_lie_within rfl G_may_lie_within.mgf G_may_lie_within.kp G_may_lie_within.b .nil pass0 (pa_cons (pv 5) (pa_cons (pv 1) (pa_cons (pv 2) pa_nil))))))) (fun _ _ _ _ _ => (pe_fldB (K := K) rfl (pv 5) rfl))) (pss_cons (ps_if (pt_cmpR op_eq (pe_callB call_len_seq (by rfl) T.b_len PySem.boot_len (pa_cons (pv 4) pa_nil)) pe_int (nomark _)) (pss_one (ps_ret (pe_lst (pa_cons (pe_un un_neg pe_int) pa_nil)))) pss_nil) (pss_one (ps_ret (pe_lst (pa_cons (pe_callB (cr_max rfl) (by rfl) T.b_max (by decide +kernel) (pa_cons (pv 4) pa_nil)) pa_nil)))))))), ?_⟩
    refine sq_set (v := .int (refd h a c)) (val_meth (val_var rfl) hp (hF_no _ _ _ _ (by decide +kernel)) (va_cons (val_var rfl) (va_cons (val_var rfl) va_nil)) fun Q q => ⟨p, h, d1, d2, d3, a, c, rfl, A0, q⟩) ?_
    rcases refd_cases h a c (match (h.touched a c).map fun b => b.most with
      | [] => (h, Sq38.says (-4))
      | x :: l => (h, Sq38.says (l.foldl max x : Nat))) with ⟨c0, st⟩ | ⟨c0, c1, c2, _⟩
    · refine sq_if (ans_test (val_i (val_var rfl) val_c)) (fun e => ?_) (fun e => absurd c0 (of_decide_eq_false e))
      refine st_retLst (va_cons (val_var rfl) va_nil) (few_s (by show 1 ≤ 10; decide)) fun r hr => ?_
      have st : h.step (.most a c) = (h, Sq38.says (refd h a c)) := st
      exact After.still (zs := [refd h a c]) B q (by rw [st]) (by unfold outs; rw [st]; rfl) hr
    · refine sq_if (ans_test (val_i (val_var rfl) val_c)) (fun e => absurd (of_decide_eq_true e) (by rw [c0]; decide)) (fun e => ?_)
      have st := step_most B.good c1 c2
      refine sq_setLcM (val_var rfl) hp (hF_no _ _ _ _ (by decide +kernel)) va_nil ⟨p, h, s, b, l, rfl, B.at_, B.len, fun H1 r us s1 hr ru => ?_⟩
      have hl : us.length ≤ 1200 := by rw [ru.len]; exact kept_len B.len
      refine rd_tops T a c hr ru hl (fun _ => rfl) (fun _ => rfl) (fun x ad H' hx hb Qv qv => ?_) fun D2 H2 s2 h2 => ?_
      · exact (va_cons (val_var rfl) (va_cons (val_var rfl) (va_cons (val_var rfl) va_nil))) _ ⟨ad, x, a, c, rfl, hb, (B.good.ok x hx).n1, qv⟩
      · refine sq_if (ans_test (val_eq (val_lenS (val_var rfl) (SqL.of h2)) val_c rfl)) (fun e => ?_) (fun e => ?_)
        · have e0 : (tops a c (kept s b l)).length = 0 := by
            have := V.int.inj (of_decide_eq_true e)
            rw [List.length_map, List.length_map] at this
            omega
          have e1 := List.eq_nil_of_length_eq_zero e0
          rw [e1] at st
          refine st_retLst (va_cons (val_neg val_c) va_nil) (few_s (by show 1 ≤ 10; decide)) fun r3 hr3 => ?_
          exact After.still2 (zs := [-4]) B q (by rw [st]) (by unfold outs; rw [st]; rfl) (s1.trans s2) hr3
        · have e0 : 0 < (tops a c (kept s b l)).length := by
            have := of_decide_eq_false e
            rw [List.length_map, List.length_map] at this
            have n : (tops a c (kept s b l)).length ≠ 0 := fun z => this (by rw [z]; rfl)
            omega
          refine st_retOne (val_var rfl) ⟨D2, (tops a c (kept s b l)).map fun n : Nat => (n : Int), rfl, SqL.of h2, by rw [List.length_map]; exact e0, fun m hm hle => ⟨few_s (by show 1 ≤ 10; decide), fun r3 hr3 => ?_⟩⟩
          obtain ⟨k, rfl, ek⟩ := max_is hm hle
          rw [ek] at st
          exact After.still2 (zs := [(k : Int)]) B q (by rw [st]) (by unfold outs; rw [st]; rfl) (s1.trans s2) hr3
theorem scEdges : FnScope ["self"] ["self"] (defScope sEdges) := ⟨rfl, rfl, rfl, by decide +kernel, rfl, by decide +kernel, by decide +kernel⟩
theorem ok_edges {f : Addr} {fd : FuncData} (F : Fun K "edges" "House.edges" sEdges f fd) (T : Txt K mg C CB CG tk) : FnOk P w K mg base CX0 1 f fd ["self"] (spEdges C CB) := by
  refine F.ok scEdges (fun vs H Q E h => ?_) (fun cdv A outer s H vs Q E hr h => ?_)
  · obtain ⟨p, h, s, b, l, rfl, _⟩ := h
    rfl
  · obtain ⟨p, h, s, b, l, rfl, B, q⟩ := h
    obtain ⟨d1, d2, d3, A0, _⟩ := B.at_.ex
    refine ⟨_, (pss_one (ps_ret (pe_lst (pa_cons (pe_fld (pv 0) rfl) (pa_cons (pe_fld (pv 0) rfl) (pa_cons (pe_fld (pv 0) rfl) pa_nil)))))), ?_⟩
    refine st_retLst (va_cons (val_h T.cl A0 T.x0 (hF_e0 _ _ _ _) (val_var rfl)) (va_cons (val_h T.cl A0 T.x1 (hF_e1 _ _ _ _) (val_var rfl)) (va_cons (val_h T.cl A0 T.x2 (hF_e2 _ _ _ _) (val_var rfl)) va_nil))) (few_s (by show 3 ≤ 10; decide)) fun r hr => ?_
    exact After.still (zs := [(h.edge0 : Int), (h.edge1 : Int), (h.edge2 : Int)]) B q rfl rfl hr
end
end Ck

set_option Elab.async false
set_option linter.all false
set_option maxRecDepth 100000
set_option maxHeartbeats 400000
namespace Ck
open PySem PySem.Spec PyProof.Rows L2 CkL
open Sq38 (Bucket House)
abbrev sOrder : Stmt := (inClass (top 21) 11)
def rowN (w : Nat) (x : Nat × Bucket) : List Nat := [x.1 * w, x.2.n, x.2.first, x.2.last, x.2.sum, x.2.least, x.2.most]
theorem told_is (w : Nat) (t : Sq38.Tier) : Sq38.told w t = ⟨t.length, Sq38.ints (t.flatMap (rowN w))⟩ := rfl
theorem flat_len (w : Nat) : ∀ t : Sq38.Tier, (t.flatMap (rowN w)).length = 7 * t.length
  | [] => rfl
  | x :: t => by
    rw [List.flatMap_cons, List.length_append, flat_len w t, List.length_cons]
    show 7 + 7 * t.length = _
    omega
def spOrder (C CB : Addr) : Sp := fun vs H Q _ => ∃ (p : Addr) (h : House) (s b l : D) (i : Nat), vs = [.ref p, .int i] ∧ Before C CB H p h s b l ∧ After C CB H p (.buckets i) h s b l Q
theorem Rep.keys {CB : Addr} {H : Hp} : ∀ {kvs : List (Key × V)} {l : D}, Rep CB H kvs l → kvs.map (·.1) = (l.map fun x => (x.1 : Int)).map Sum.inl
  | _, _, .nil => rfl
  | _, _, .cons _ r => congrArg (List.cons _) r.keys
section
variable {P : Program} {w : World} {K : PySem.W.Frag} {mg : Str → Option Value} {base : Heap} {C CB CG : Addr} {tk : Nat → Tok}
/-- for x in (a list that a built-in gives back) -/
theorem sq_forB {D : Ends} {σ : L2.St} {H : Hp} {r : List V → Hp → VK → Prop} {t : TA} {tb t2 : TS} {j : Nat} {vs : List V} (ht : ValA t σ H vs)
    (h : r vs H (fun x H1 => ∃ (a : Addr) (xs : List V) (Pv : Nat → L2.St → Hp → Prop), x = .ref a ∧ SqL K H1 a xs ∧ Pv 0 σ H1 ∧ (∀ i σ H, Pv i σ H → SqL K H a xs) ∧
      (∀ i x σ H (D2 : Ends), (∀ σ' H', Pv (i + 1) σ' H' → D2.nx σ' H') → xs[i]? = some x → Pv i σ H → tb D2 (σ.set j (some x)) H) ∧ (∀ σ H, Pv xs.length σ H → t2 D σ H)))
    (mono : ∀ vs H Q Q', (∀ v H1, Q v H1 → Q' v H1) → r vs H Q → r vs H Q') : tSeq (tFor (iList K (tCB r t)) (gName j) tb) t2 D σ H := by
  refine ht _ (mono _ _ _ _ (fun v H1 q => ?_) h)
  obtain ⟨a, xs, Pv, rfl, hq, h0, hl, hs, hd⟩ := q
  refine ⟨a, rfl, ⟨xs, hq⟩, for_list (K := K) (a := a) (xs := xs) Pv h0 (fun i σ H _ => hl i σ H) (fun i x σ H hi pv => ?_) hd⟩
  refine hs i x σ H _ ?_ hi pv
  exact fun σ' H' z => z
theorem st_extendCall {D : Ends} {σ : L2.St} {H : Hp} {to : TE} {sp : Sp} {E : XK} {t : TA} {l : Addr} {xs vs : List V} (ho : Val to σ H (.ref l)) (h : H l = some (.lst xs)) (ht : ValA t σ H vs) (r : sp (vs ++ []) H (fun v H1 => rExtend (.ref l) [v] H1 (fun _ H2 => D.nx σ H2)) E) : tDrop (tBM K "list" rExtend to (tCons (tCall sp [] E t) tNil)) D σ H :=
  ho _ ⟨.inl ⟨rfl, xs, SqL.of h⟩, ht _ r⟩
theorem sq_appendO {D : Ends} {σ : L2.St} {H : Hp} {to te : TE} {t2 : TS} {l : Addr} {xs : List V} {y : V} (ho : Val to σ H (.ref l)) (he : Val te σ H y) (h : H l = some (.lst xs)) (hl : xs.length < sizeLine) (r : t2 D σ (upd H l (.lst (xs ++ [y])))) : tSeq (tDrop (tBM K "list" rAppend to (tCons te tNil))) t2 D σ H :=
  ho _ ⟨.inl ⟨rfl, xs, SqL.of h⟩, he _ ⟨l, xs, y, rfl, rfl, h, hl, r⟩⟩
theorem sq_newLst {D : Ends} {σ : L2.St} {H : Hp} {t : TA} {vs : List V} {t2 : TS} {i : Nat} (h : ValA t σ H vs) (hl : vs.length ≤ sizeLine) (r : ∀ p, H p = none → t2 D (σ.set i (some (.ref p))) (upd H p (.lst vs))) : tSeq (tAsg (tLst t) (gName i)) t2 D σ H := h _ ⟨hl, r⟩
theorem scOrder : FnScope ["self", "i", "asked", "answered", "begins"] ["self", "i"] (defScope sOrder) := ⟨rfl, rfl, rfl, by decide +kernel, rfl, by decide +kernel, by decide +kernel⟩
theorem ok_order {f : Addr} {fd : FuncData} {f1 : Addr} {fd1 : FuncData} (F : Fun K "buckets_in_order" "House.buckets_in_order" sOrder f fd) (T : Txt K mg C CB CG tk) (G_numbers_of : Def P w K mg base "numbers_of" 1 ["bucket"] (spNums CB) f1 fd1) :
    FnOk P w K mg base CX0 2 f fd ["self", "i"] (spOrder C CB) := by
  refine F.ok scOrder (fun vs H Q E h => ?_) (fun cdv A outer s H vs Q E hr_numbers_of h => ?_)
  · obtain ⟨p, h, s, b, l, i, rfl, _⟩ := h
    rfl
  · obtain ⟨p, h, s, b, l, i, rfl, B, q⟩ := h
    have hu := hu_of hr_numbers_of
    obtain ⟨d1, d2, d3, A0, _, D2, D3, _⟩ := B.at_.ex
    have G := B.good
    have ln := B.len
    refine ⟨_, (pss_cons (ps_if (pt_cmpR op_gt (pv 1) pe_int (nomark _)) (pss_one (ps_ret (pe_lst (pa_cons (pe_un un_neg pe_int) pa_nil)))) pss_nil) (pss_cons (ps_set (i := 2) scOrder.nd rfl (Or.inl rfl) (pe_ifExp (pt_cmpR op_eq (pv 1) pe_int (nomark _)) (pe_fld (pv 0) rfl) (pe_fld (pv 0) rfl))) (pss_cons (ps_set (i := 3) scOrder.nd rfl (Or.inl rfl) (pe_lst (pa_cons (pe_callB call_lenD (by rfl) T.b_len PySem.boot_len (pa_cons (pv 2) pa_nil)) pa_nil))) (pss_cons (ps_for PassesOwn.never rfl (pi_list (pe_callB (cr_sortedK rfl) (by rfl) T.b_sorted (by decide +kernel) (pa_cons (pv 2) pa_nil))) (pg_name (i := 4) scOrder.nd rfl (Or.inl rfl)) (pss_cons (ps_expr (pe_bm PySem.F.plainAttrs_list PySem.F.slot_list_append PySem.F.type_list_append mt_append (pv 3) (pa_cons (pv 4) pa_nil))) (pss_one (ps_expr (pe_bm PySem.F.plainAttrs_list PySem.F.slot_list_extend PySem.F.type_list_extend mt_extend (pv 3) (pa_cons (pe_call G_numbers_of.ok hr_numbers_of rfl G_numbers_of.mgf G_numbers_of.kp G_numbers_of.b .nil pass0 (pa_cons (pe_dget hu (pv 2) (pv 4) (fun _ _ => rfl)) pa_nil)) pa_nil)))))) (pss_one (ps_ret (pv 3))))))), ?_⟩
    refine sq_if (ans_test (val_i (val_var rfl) val_c)) (fun e => ?_) (fun e => ?_)
    · have c : 1 < i := by have := of_decide_eq_true e; omega
      refine st_retLst (va_cons (val_neg val_c) va_nil) (few_s (by decide)) fun r hr => ?_
      have st : h.step (.buckets i) = (h, Sq38.says (-1)) := if_pos c
      exact After.still (zs := [-1]) B q (by rw [st]) (by unfold outs; rw [st]; rfl) hr
    · have c : ¬ 1 < i := by have := of_decide_eq_false e; omega
      have key : ∃ (d : Addr) (L : D) (v : Nat) (t : Sq38.Tier), DictAt CB H d L ∧ R v L t ∧ 0 < v ∧ L.length ≤ 1199 ∧ h.step (.buckets i) = (h, Sq38.told v t) ∧ ((i = 0 ∧ d = d2) ∨ (i ≠ 0 ∧ d = d3)) := by
        by_cases c0 : i = 0
        · exact ⟨d2, b, h.width, h.small, D2, G.sm, G.w0, by omega, (if_neg c).trans (by rw [if_pos c0]), .inl ⟨c0, rfl⟩⟩
        · exact ⟨d3, l, h.wide, h.large, D3, G.lg, G.v0, by omega, (if_neg c).trans (by rw [if_neg c0]), .inr ⟨c0, rfl⟩⟩
      obtain ⟨d, L, v, t, ⟨kvs, hd, rep⟩, hR, v0, hL, st, hc⟩ := key
      rw [told_is] at st
      -- asked = ..
      refine sq_set (v := .ref d) (val_ifx (ans_test (val_eq (val_var rfl) val_c rfl)) (fun e => ?_) (fun e => ?_)) ?_
      · have c0 : i = 0 := by have := V.int.inj (of_decide_eq_true e); omega
        rcases hc with ⟨_, rfl⟩ | ⟨n, _⟩
        · exact val_h T.cl A0 T.hb (hF_b _ _ _ _) (val_var rfl)
        · exact absurd c0 n
      · have c0 : i ≠ 0 := fun z => of_decide_eq_false e (by rw [z]; rfl)
        rcases hc with ⟨n, _⟩ | ⟨_, rfl⟩
        · exact absurd n c0
        · exact val_h T.cl A0 T.hl (hF_l _ _ _ _) (val_var rfl)
      -- answered = [len(asked)]
      refine sq_newLst (va_cons (val_lenD (val_var rfl) hd) va_nil) (few_s (by show 1 ≤ 10; decide)) fun y hy => ?_
      have lt : t.length ≤ 1199 := by rw [← hR.len]; exact hL
      have el : (kvs.length : Int) = t.length := by rw [rep.len, hR.len]
      rw [el]
      have big : (10000 : Nat) < sizeLine := by decide
      -- for begins in sorted(asked)
      have dy : d ≠ y := ne_of_none hd hy
      refine sq_forB (va_cons (val_var rfl) va_nil) ⟨d, kvs, _, rfl, .inl (by rw [upd_ne dy]; exact hd), rep.keys, fun ns pS perm srt hpS => ?_⟩ ?_
      · have hpS0 : H pS = none := (same_new hy).free hpS
        have npy : pS ≠ y := fun z => by rw [z, upd_same] at hpS; cases hpS
        obtain rfl := sorted_keys v0 hR perm srt
        refine ⟨pS, _, fun j σ H' => ∃ x4 : Option V, σ = [some (.ref p), some (.int i), some (.ref d), some (.ref y), x4] ∧ Same H H' ∧ H' pS = some (.lst ((t.map fun x => ((x.1 * v : Nat) : Int)).map V.int)) ∧ H' y = some (.lst ((((t.length : Nat) : Int) :: Sq38.ints ((t.take j).flatMap (rowN v))).map V.int)), rfl, SqL.of upd_same, ⟨none, rfl, (same_new hy).trans (same_new hpS), upd_same, by rw [upd_ne npy.symm, upd_same]; rfl⟩, ?_, ?_, ?_⟩
        · rintro j σ H' ⟨_, _, _, z, _⟩
          exact SqL.of z
        · rintro j x σ H' E2 nx hj ⟨x4, rfl, s2, z1, z2⟩
          rw [List.map_map, List.getElem?_map] at hj
          obtain ⟨z, hz, rfl⟩ := Option.map_eq_some_iff.mp hj
          have lj : j < t.length := (List.getElem?_eq_some_iff.mp hz).1
          have hlk := hR.look v0 (List.mem_of_getElem? hz)
          obtain ⟨ad, hv, hbk⟩ := rep.some hlk
          have lacc : ((((t.length : Nat) : Int) :: Sq38.ints ((t.take j).flatMap (rowN v))).map V.int).length = 1 + 7 * min j t.length := by
            unfold Sq38.ints
            rw [List.length_map, List.length_cons, List.length_map, flat_len, List.length_take]
            omega
          -- answered.append(begins)
          refine sq_appendO (val_var rfl) (val_var rfl) z2 (by rw [lacc]; omega) ?_
          have s3 := same_upd (o := .lst ((((t.length : Nat) : Int) :: Sq38.ints ((t.take j).flatMap (rowN v))).map V.int ++ [V.int ((z.1 * v : Nat) : Int)])) s2 hy
          -- answered.extend(numbers_of(asked[begins]))
          refine st_extendCall (val_var rfl) upd_same (va_cons (val_dget (val_var rfl) (val_var rfl) (.inl (s3 _ _ hd)) hv) va_nil) ⟨ad, z.2, rfl, (Ck.Same.keeps s3).bk hbk, fun r hr => ?_⟩
          have nry : r ≠ y := fun e => by rw [e, upd_same] at hr; cases hr
          refine ⟨y, r, _, _, rfl, rfl, by rw [upd_ne nry.symm]; exact upd_same, upd_same, ?_, nx _ _ ⟨some (.int ((z.1 * v : Nat) : Int)), rfl, same_upd (s3.trans (same_new hr)) hy, ?_, ?_⟩⟩
          · rw [List.length_append, lacc]
            show 1 + 7 * min j t.length + 1 + 6 ≤ _
            omega
          · have npr : pS ≠ r := fun e => by
              rw [← e, upd_ne npy, z1] at hr; cases hr
            rw [upd_ne npy, upd_ne npr, upd_ne npy]
            exact z1
          · rw [upd_same, take_more hz, List.flatMap_append, List.flatMap_singleton]
            unfold Sq38.ints rowN
            rw [List.map_append, ← List.cons_append, List.map_append, List.append_assoc]
            rfl
        · rintro σ H' ⟨x4, rfl, s2, z1, z2⟩
          rw [List.length_map, List.length_map, List.take_length] at z2
          refine st_ret (val_var rfl) (After.still3 B q (by rw [st]) ?_ s2 hy z2)
          unfold outs
          rw [st]
      · rintro vs H Q Q' hQ ⟨d, kvs, ks, e1, e2, e3, k⟩
        exact ⟨d, kvs, ks, e1, e2, e3, fun ns p z1 z2 z3 => hQ _ _ (k ns p z1 z2 z3)⟩
end
end Ck

set_option Elab.async false
set_option linter.all false
set_option maxRecDepth 100000
set_option maxHeartbeats 400000
namespace Ck
open PySem PySem.Spec PyProof.Rows L2 CkL
open Sq38 (Bucket House)
abbrev sAnswers : Stmt := (top 25)
def spAnswer (K : PySem.W.Frag) (C CB : Addr) : Sp := fun vs H Q _ => ∃ (p g : Addr) (n : Int) (xs : List Int) (c : Sq38.Call) (h : House) (s b l : D), vs = [.ref p, .int n, .ref g] ∧ Before C CB H p h s b l ∧ SqL K H g (xs.map V.int) ∧ CallIs n xs c ∧ After C CB H p c h s b l Q
def spAnswers (K : PySem.W.Frag) : Sp := fun vs H Q _ => ∃ (a : Addr) (ns : List Int), vs = [.ref a] ∧ SqL K H a (ns.map V.int) ∧ ns.length ≤ 1200 ∧ (∀ x ∈ ns, 0 ≤ x) ∧ PySq38.answers_asked ns = true ∧
  ∀ (H' : Hp) (p : Addr), H' p = some (.lst ((PySq38.answers ns).map V.int)) → Q (.ref p) H'
section
variable {P : Program} {w : World} {K : PySem.W.Frag} {mg : Str → Option Value} {base : Heap} {C CB CG : Addr} {tk : Nat → Tok}
theorem sq_while {D : Ends} {σ : L2.St} {H : Hp} {tc : TT} {tb t2 : TS} (W : Nat → L2.St → Hp → Prop) (m : Nat) (h0 : W m σ H)
    (hs : ∀ m σ H, W m σ H → ∃ b, Ans tc σ H b ∧ (b = true → ∀ D2 : Ends, (∀ m' σ' H', m' < m → W m' σ' H' → D2.nx σ' H') → tb D2 σ H) ∧ (b = false → t2 D σ H)) : tSeq (tWhile tc tb) t2 D σ H := by
  refine ⟨W, ⟨m, h0⟩, fun m σ H hw => ?_⟩
  obtain ⟨b, hb, h1, h2⟩ := hs m σ H hw
  refine hb _ ?_
  cases b with
  | true =>
    refine iteT ⟨fun σ' H' => ∃ m', m' < m ∧ W m' σ' H', fun _ _ z => z, ?_⟩
    refine h1 rfl _ ?_
    exact fun m' σ' H' hm hw' => ⟨m', hm, hw'⟩
  | false => exact iteF (h2 rfl)
theorem sq_setMake {D : Ends} {σ : L2.St} {H : Hp} {sp : Sp} {E : XK} {t : TA} {vs : List V} {t2 : TS} {i : Nat} (h : ValA t σ H vs) (r : ∀ x dx, H x = none → H dx = none → dx ≠ x → sp (.ref x :: (vs ++ [])) (upd (upd H dx (.own x)) x (.ins C dx [])) (fun v H2 => v = .non ∧ t2 D (σ.set i (some (.ref x))) H2) E) :
    tSeq (tAsg (tMake C sp [] E t) (gName i)) t2 D σ H := h _ r
theorem sq_setLst {D : Ends} {σ : L2.St} {H : Hp} {t : TA} {vs : List V} {t2 : TS} {i : Nat} (h : ValA t σ H vs) (hl : vs.length ≤ sizeLine) (r : ∀ p, H p = none → t2 D (σ.set i (some (.ref p))) (upd H p (.lst vs))) : tSeq (tAsg (tLst t) (gName i)) t2 D σ H := h _ ⟨hl, r⟩
theorem val_ixL {σ : L2.St} {H : Hp} {ta ti : TE} {t : Addr} {i : Int} {xs : List V} {v : V} (ha : Val ta σ H (.ref t)) (hi : Val ti σ H (.int i)) (h : SqL K H t xs) (e : atI xs i = some v) : Val (tOp (rIxL K) ta ti) σ H v :=
  val_op ha hi fun Q q => ⟨t, xs, i, v, rfl, rfl, h, e, q⟩
theorem val_given {σ : L2.St} {H : Hp} {ti : TE} {n : Int} {v : V} (hi : Val ti σ H (.int n)) (h : KDctI K CG n v) : Val (tOp (rIxI K) (tC (.ref CG)) ti) σ H v :=
  val_op val_c hi fun Q q => ⟨CG, n, v, rfl, rfl, h, q⟩
theorem val_lenL {σ : L2.St} {H : Hp} {ta : TE} {d : Addr} {xs : List V} (ha : Val ta σ H (.ref d)) (h : SqL K H d xs) : Val (tCB (fun xs H Q => ∃ p ys, xs = [.ref p] ∧ (SqL K H p ys ∨ SqT K H p ys) ∧ Q (.int ys.length) H) (tCons ta tNil)) σ H (.int xs.length) :=
  val_cb (va_cons ha va_nil) fun Q q => ⟨d, xs, rfl, .inl h, q⟩
theorem Stays.seq {p a dx : Addr} {fs : List (Str × V)} {H H' : Hp} {xs : List V} (s : Stays p H H') (hp : H p = some (.ins C dx fs)) (h : SqL K H a xs) : SqL K H' a xs := by
  rcases h with (h | ⟨o, h⟩) | h
  · exact .inl (.inl (s _ _ h (ne_of h hp (by intro z; cases z)) fun kvs z => by cases z))
  · exact .inl (.inr ⟨o, s _ _ h (ne_of h hp (by intro z; cases z)) fun kvs z => by cases z⟩)
  · exact .inr h
theorem cut_take {ns : List Int} {i k : Nat} (h : i + k ≤ ns.length) : cutV (ns.map V.int) (some (i : Int)) (some ((i + k : Nat) : Int)) = ((ns.drop i).take k).map V.int := by
  unfold cutV
  have e1 : min i ns.length = i := by omega
  have e2 : min (i + k) ns.length = i + k := by omega
  rw [List.length_map, HT.sIx_nat, HT.sIx_nat, e1, e2, Nat.add_sub_cancel_left, List.map_take, List.map_drop]
theorem rd_slice {σ : L2.St} {H : Hp} {te tl th : TE} {a : Addr} {xs : List V} {i j : Int} {Q : VK} (he : Val te σ H (.ref a)) (hl : Val tl σ H (.int i)) (hh : Val th σ H (.int j)) (h : SqL K H a xs) (r : ∀ p H', H p = none → H' p = some (.lst (cutV xs (some i) (some j))) → Same H H' → Q (.ref p) H') : tSl (rSlL K) te (tPart tl) (tPart th) σ H Q :=
  he _ (hl _ ⟨i, rfl, hh _ ⟨j, rfl, a, xs, rfl, h, fun p hp => r p _ hp upd_same (same_new hp)⟩⟩)
theorem sq_setCall3 {D : Ends} {σ : L2.St} {H : Hp} {sp : Sp} {E : XK} {t1 t2 t3 : TE} {v1 v2 : V} {tz : TS} {i : Nat} (h1 : Val t1 σ H v1) (h2 : Val t2 σ H v2) (r : t3 σ H (fun v3 H1 => sp [v1, v2, v3] H1 (fun v H2 => tz D (σ.set i (some v)) H2) E)) : tSeq (tAsg (tCall sp [] E (tCons t1 (tCons t2 (tCons t3 tNil)))) (gName i)) tz D σ H := h1 _ (h2 _ r)
theorem sq_append {D : Ends} {σ : L2.St} {H : Hp} {to te : TE} {t2 : TS} {l : Addr} {xs : List V} {y : V} (ho : Val to σ H (.ref l)) (he : Val te σ H y) (h : H l = some (.lst xs)) (hl : xs.length < sizeLine) (r : t2 D σ (upd H l (.lst (xs ++ [y])))) : tSeq (tDrop (tBM K "list" rAppend to (tCons te tNil))) t2 D σ H :=
  ho _ ⟨.inl ⟨rfl, xs, SqL.of h⟩, he _ ⟨l, xs, y, rfl, rfl, h, hl, r⟩⟩
theorem sq_extend {D : Ends} {σ : L2.St} {H : Hp} {to te : TE} {t2 : TS} {l b : Addr} {xs zs : List V} (ho : Val to σ H (.ref l)) (he : Val te σ H (.ref b)) (h : H l = some (.lst xs)) (hb : H b = some (.lst zs)) (hl : xs.length + zs.length ≤ sizeLine) (r : t2 D σ (upd H l (.lst (xs ++ zs)))) : tSeq (tDrop (tBM K "list" rExtend to (tCons te tNil))) t2 D σ H :=
  ho _ ⟨.inl ⟨rfl, xs, SqL.of h⟩, he _ ⟨l, b, xs, zs, rfl, rfl, h, hb, hl, r⟩⟩
theorem at_nat {ns : List Int} {i : Nat} {n : Int} (h : ns[i]? = some n) : atI (ns.map V.int) (i : Int) = some (.int n) := by
  refine atI_nat ?_
  rw [List.getElem?_map, h]
  rfl
theorem _root_.L2.SqL.off {H H' : Hp} {a : Addr} {xs : List V} (h : SqL K H a xs) (k : ∀ o, H a = some o → H' a = some o) : SqL K H' a xs := by
  rcases h with (h | ⟨o, h⟩) | h
  · exact .inl (.inl (k _ h))
  · exact .inl (.inr ⟨o, k _ h⟩)
  · exact .inr h
theorem HouseAt.off {H H' : Hp} {p y : Addr} {h : House} {s b l : D} {xs : List V} (x : HouseAt C CB H p h s b l) (hy : H y = some (.lst xs)) (k : ∀ z, z ≠ y → H' z = H z) : HouseAt C CB H' p h s b l := by
  obtain ⟨d1, d2, d3, ⟨dx, h0⟩, h1, h2, h3, n⟩ := x.ex
  have kp : Keeps CB H H' := fun a dx fs z => by rw [k a (ne_of z hy (by intro z; cases z))]; exact z
  have kd : ∀ {d : Addr} {m : D}, DictAt CB H d m → DictAt CB H' d m := fun {d m} q => q.keep kp fun o z => by
    obtain ⟨kvs, z2, _⟩ := q
    rw [k d (ne_of z2 hy (by intro z; cases z))]; exact z
  exact ⟨d1, d2, d3, ⟨dx, by rw [k p (ne_of h0 hy (by intro z; cases z))]; exact h0⟩, kd h1, kd h2, kd h3, n⟩
theorem scAnswers : FnScope ["calls", "house", "answered", "at", "number", "behind", "told"] ["calls"] (defScope sAnswers) := ⟨rfl, rfl, rfl, by decide +kernel, rfl, by decide +kernel, by decide +kernel⟩
theorem ok_answers {f : Addr} {fd : FuncData} {f1 f2 : Addr} {fd1 fd2 : FuncData} (F : Fun K "answers" "answers" sAnswers f fd) (T : Txt K mg C CB CG tk) (M_House : Cla P w K mg base "House" C 2 ["self"] (spInit C CB) f1 fd1) (G_answer : Def P w K mg base "answer" 6 ["house", "number", "given"] (spAnswer K C CB) f2 fd2) :
    FnOk P w K mg base CX0 7 f fd ["calls"] (spAnswers K) := by
  refine F.ok scAnswers (fun vs H Q E h => ?_) (fun cdv A outer s H vs Q E hr_answer h => ?_)
  · obtain ⟨a, ns, rfl, _⟩ := h
    rfl
  · obtain ⟨a, ns, rfl, hS, hlen, h0, hask, q⟩ := h
    have hr_House : Room 3 _ := hr_answer.mono (by decide)
    refine ⟨_, (pss_cons (ps_set (i := 1) scAnswers.nd rfl (Or.inl rfl) (pe_make0 M_House.mkk M_House.ok hr_House rfl M_House.mgC M_House.b .nil pass0)) (pss_cons (ps_set (i := 2) scAnswers.nd rfl (Or.inl rfl) (pe_lst pa_nil)) (pss_cons (ps_set (i := 3) scAnswers.nd rfl (Or.inl rfl) pe_int) (pss_cons (ps_while PassesOwn.never (pt_cmpR op_lt (pv 3) (pe_callB call_len_seq (by rfl) T.b_len PySem.boot_len (pa_cons (pv 0) pa_nil)) (nomark _)) (pss_cons (ps_set (i := 4) scAnswers.nd rfl (Or.inl rfl) (pe_ix ix_list (pv 0) (pv 3) (fun _ _ => rfl))) (pss_cons (ps_set (i := 5) scAnswers.nd rfl (Or.inl rfl) (pe_op op_add (pe_op op_add (pv 3) pe_int) (pe_ix ix_kdictI (pe_glob (v := .ref _) rfl T.c_GIVEN rfl) (pv 4) (fun _ _ => rfl)))) (pss_cons (ps_set (i := 6) scAnswers.nd rfl (Or.inl rfl) (pe_call G_answer.ok hr_answer rfl G_answer.mgf G_answer.kp G_answer.b .nil pass0 (pa_cons (pv 1) (pa_cons (pv 4) (pa_cons (pe_slice sl_list (pv 0) (po_some (pe_op op_add (pv 3) pe_int)) (po_some (pv 5))) pa_nil))))) (pss_cons (ps_expr (pe_bm PySem.F.plainAttrs_list PySem.F.slot_list_append PySem.F.type_list_append mt_append (pv 2) (pa_cons (pe_callB call_len_seq (by rfl) T.b_len PySem.boot_len (pa_cons (pv 6) pa_nil)) pa_nil))) (pss_cons (ps_expr (pe_bm PySem.F.plainAttrs_list PySem.F.slot_list_extend PySem.F.type_list_extend mt_extend (pv 2) (pa_cons (pv 6) pa_nil))) (pss_one (ps_set (i := 3) scAnswers.nd rfl (Or.inl rfl) (pv 5))))))))) (pss_one (ps_ret (pv 2))))))), ?_⟩
    -- house = House()
    refine sq_setMake va_nil fun x dx nx ndx nex => ?_
    refine ⟨x, dx, rfl, upd_same, fun H1 A1 k1 => ⟨rfl, ?_⟩⟩
    have s1 : Same H H1 := fun b o e => k1 b o (by rw [upd_ne (ne_of_none e nx), upd_ne (ne_of_none e ndx)]; exact e) (ne_of_none e nx)
    -- answered = []; at = 0
    refine sq_setLst va_nil (Nat.zero_le _) fun y hy => ?_
    have hay : a ≠ y ∨ ∀ H2, SqL K H2 a (ns.map V.int) := by
      rcases s1.seq hS with (z | ⟨o, z⟩) | z
      · exact .inl (ne_of_none z hy)
      · exact .inl (ne_of_none z hy)
      · exact .inr fun _ => .inr z
    refine sq_set val_c ?_
    refine sq_while (fun m σ H' => ∃ (i : Nat) (x4 x5 x6 : Option V) (h : House) (s b l : D) (acc : List Int), m = ns.length - i ∧ i ≤ ns.length ∧ σ = [some (.ref a), some (.ref x), some (.ref y), some (.int i), x4, x5, x6] ∧ SqL K H' a (ns.map V.int) ∧
        HouseAt C CB H' x h s b l ∧ Good h s b l ∧ Spans h ∧ s.length + b.length + l.length ≤ i ∧ H' y = some (.lst (acc.map V.int)) ∧ Stand ns i h acc) ns.length
      ⟨0, none, none, none, Sq38.fresh, [], [], [], [], rfl, Nat.zero_le _, rfl, (s1.trans (same_new hy)).seq hS, A1.same (same_new hy), good_fresh, spans_fresh, Nat.le_refl _, upd_same, stand0 hask⟩ ?_
    rintro m σ H' ⟨i, x4, x5, x6, h, s, b, l, acc, rfl, hi, rfl, hS', A', G, SP, hn, hy', ST⟩
    refine ⟨_, ans_test (val_i (val_var rfl) (val_lenL (val_var rfl) hS')), fun e D2 nx2 => ?_, fun e => ?_⟩
    · have c : i < ns.length := by have := of_decide_eq_true e; rw [List.length_map] at this; omega
      obtain ⟨n, k, cl, en, hs, hk, hc, ST'⟩ := ST.next c h0
      refine sq_set (val_ixL (val_var rfl) (val_var rfl) hS' (at_nat en)) ?_
      refine sq_set (v := .int ((i + 1 + k : Nat) : Int)) (Val.to (val_i (val_i (val_var rfl) val_c) (val_given (val_var rfl) (T.given n k hs))) (congrArg V.int (by omega))) ?_
      -- told = answer(house, number, calls[at + 1:behind])
      refine sq_setCall3 (val_var rfl) (val_var rfl) ?_
      refine rd_slice (i := ((i + 1 : Nat) : Int)) (j := ((i + 1 + k : Nat) : Int)) (val_var rfl) (Val.to (val_i (val_var rfl) val_c) (congrArg V.int (by omega))) (val_var rfl) hS' fun g Hg hg zg sg => ?_
      rw [cut_take hk] at zg
      have Ag := A'.same sg
      obtain ⟨_, _, _, ⟨dz, hx⟩, _⟩ := Ag.ex
      refine ⟨x, g, n, _, cl, h, s, b, l, rfl, ⟨Ag, G, SP, by omega⟩, SqL.of zg, hc, fun H2 r s' b' l' A2 G2 SP2 l2 nr zr st => ?_⟩
      have hy2 : H2 y = some (.lst (acc.map V.int)) := st _ _ (sg _ _ hy') (ne_of (sg _ _ hy') hx (by intro z; cases z)) fun kvs z => by cases z
      have nyr : y ≠ r := ne_of_none (sg _ _ hy') nr
      have hsh := ST'.short hask
      rw [List.length_append, List.length_cons] at hsh
      have hol : ((outs h cl).map V.int).length = ((h.step cl).2.value :: (h.step cl).2.out).length := List.length_map _
      have big : (10000000 : Nat) < sizeLine := by decide
      -- answered.append(len(told)); answered.extend(told); at = behind
      refine sq_append (val_var rfl) (val_lenL (val_var rfl) (SqL.of zr)) hy2 (by rw [List.length_map]; omega) ?_
      refine sq_extend (val_var rfl) (val_var rfl) upd_same (by rw [upd_ne nyr.symm]; exact zr) (by rw [List.length_append, List.length_map, hol]; show _ + 1 + _ ≤ _; omega) ?_
      refine st_set (val_var rfl) (nx2 (ns.length - (i + 1 + k)) _ _ (by omega) ?_)
      obtain ⟨_, _, _, ⟨dy, hx2⟩, _⟩ := A2.ex
      refine ⟨i + 1 + k, some (.int n), some (.int ((i + 1 + k : Nat) : Int)), some (.ref r), _, s', b', l', _, rfl, hk, rfl, ?_, ?_, G2, SP2, by omega, ?_, ST'⟩
      · rcases hay with nay | wr
        · refine (st.seq hx (sg.seq hS')).off fun o z => ?_
          rw [upd_ne nay, upd_ne nay]
          exact z
        · exact wr _
      · refine A2.off hy2 fun z hz => ?_
        rw [upd_ne hz, upd_ne hz]
      · rw [upd_same, List.map_append, hol]
        unfold outs
        rw [List.append_assoc]
        rfl
    · have c : i = ns.length := by have := of_decide_eq_false e; rw [List.length_map] at this; omega
      subst c
      refine st_ret (val_var rfl) (q H' y ?_)
      rw [ST.done]
      exact hy'
end
end Ck

set_option Elab.async false
set_option linter.all false
set_option maxRecDepth 100000
set_option maxHeartbeats 400000
namespace Ck
open PySem PySem.Spec PyProof.Rows L2 CkL
open Sq38 (Bucket House)
abbrev sAnswer : Stmt := (top 24)
section
variable {P : Program} {w : World} {K : PySem.W.Frag} {mg : Str → Option Value} {base : Heap} {C CB CG : Addr} {tk : Nat → Tok}
theorem st_retMeth {D : Ends} {σ : L2.St} {H : Hp} {m : Str} {sp : Sp} {E : XK} {ta : TE} {t : TA} {p dx : Addr} {fs : List (Str × V)} {vs : List V} (ha : Val ta σ H (.ref p)) (hp : H p = some (.ins C dx fs)) (hn : fs.lookup m = none) (ht : ValA t σ H vs) (r : sp (.ref p :: (vs ++ [])) H D.rt E) : tRet (tMeth C m sp [] E ta t) D σ H :=
  ha _ ⟨p, dx, fs, rfl, hp, hn, ht _ r⟩
theorem sq_ne {D : Ends} {σ : L2.St} {H : Hp} {ta : TE} {n m : Int} {p t2 : TS} (h : Val ta σ H (.int n)) (hn : n ≠ m) (r : t2 D σ H) : tSeq (tIfS (tTest (tOp rEq ta (tC (.int m)))) p tNext) t2 D σ H :=
  sq_if (ans_test (val_eq h val_c rfl)) (fun e => absurd (V.int.inj (of_decide_eq_true e)) hn) (fun _ => r)
theorem sq_eq {D : Ends} {σ : L2.St} {H : Hp} {ta : TE} {n : Int} {p t2 : TS} (h : Val ta σ H (.int n)) (r : p { D with nx := t2 D } σ H) : tSeq (tIfS (tTest (tOp rEq ta (tC (.int n)))) p tNext) t2 D σ H :=
  sq_if (b := true) (ans_test (Val.to (val_eq h val_c rfl) (congrArg V.bl (decide_eq_true rfl)))) (fun _ => r) (fun e => by cases e)
theorem scAnswer : FnScope ["house", "number", "given"] ["house", "number", "given"] (defScope sAnswer) := ⟨rfl, rfl, rfl, by decide +kernel, rfl, by decide +kernel, by decide +kernel⟩
theorem ok_answer {f : Addr} {fd : FuncData} {f1 f2 f3 f4 f5 f6 f7 f8 : Addr} {fd1 fd2 fd3 fd4 fd5 fd6 fd7 fd8 : FuncData} (F : Fun K "answer" "answer" sAnswer f fd) (T : Txt K mg C CB CG tk)
    (Q_begin : Mth P w K mg base C "begin" 2 ["self", "width", "wide", "samples_time", "buckets_time", "larger_time"] (spHBegin C CB) f1 fd1)
    (Q_sample : Mth P w K mg base C "sample" 4 ["self", "time", "value"] (spSample C CB) f2 fd2)
    (Q_age : Mth P w K mg base C "age" 5 ["self", "now"] (spAge C CB) f3 fd3)
    (Q_how_many : Mth P w K mg base C "how_many" 5 ["self", "a", "c"] (spHow C CB) f4 fd4)
    (Q_what_they_come_to : Mth P w K mg base C "what_they_come_to" 5 ["self", "a", "c"] (spCome C CB) f5 fd5)
    (Q_greatest_there : Mth P w K mg base C "greatest_there" 5 ["self", "a", "c"] (spTop C CB) f6 fd6)
    (Q_edges : Mth P w K mg base C "edges" 1 ["self"] (spEdges C CB) f7 fd7)
    (Q_buckets_in_order : Mth P w K mg base C "buckets_in_order" 2 ["self", "i"] (spOrder C CB) f8 fd8)
    : FnOk P w K mg base CX0 6 f fd ["house", "number", "given"] (spAnswer K C CB) := by
  refine F.ok scAnswer (fun vs H Q E h => ?_) (fun cdv A outer s H vs Q E hr_ h => ?_)
  · obtain ⟨p, g, n, xs, c, h, s, b, l, rfl, _⟩ := h
    rfl
  · obtain ⟨p, g, n, xs, c, h, s, b, l, rfl, B, hS, hc, q⟩ := h
    have hr_begin : Room 2 _ := hr_.mono (by decide)
    have hr_sample : Room 4 _ := hr_.mono (by decide)
    have hr_age : Room 5 _ := hr_.mono (by decide)
    have hr_how_many : Room 5 _ := hr_.mono (by decide)
    have hr_what_they_come_to : Room 5 _ := hr_.mono (by decide)
    have hr_greatest_there : Room 5 _ := hr_.mono (by decide)
    have hr_edges : Room 1 _ := hr_.mono (by decide)
    have hr_buckets_in_order : Room 2 _ := hr_.mono (by decide)
    obtain ⟨_, _, _, ⟨dx, hp⟩, _⟩ := B.at_.ex
    refine ⟨_, (pss_cons (ps_if (pt_cmpR op_eq (pv 1) pe_int (nomark _)) (pss_one (ps_ret (pe_meth (pv 0) T.cl Q_begin.m Q_begin.ok hr_begin Q_begin.b .nil pass0 (pa_cons (pe_ix ix_list (pv 2) pe_int (fun _ _ => rfl)) (pa_cons (pe_ix ix_list (pv 2) pe_int (fun _ _ => rfl)) (pa_cons (pe_ix ix_list (pv 2) pe_int (fun _ _ => rfl)) (pa_cons (pe_ix ix_list (pv 2) pe_int (fun _ _ => rfl)) (pa_cons (pe_ix ix_list (pv 2) pe_int (fun _ _ => rfl)) pa_nil)))))))) pss_nil) (pss_cons (ps_if (pt_cmpR op_eq (pv 1) pe_int (nomark _)) (pss_one (ps_ret (pe_meth (pv 0) T.cl Q_sample.m Q_sample.ok hr_sample Q_sample.b .nil pass0 (pa_cons (pe_ix ix_list (pv 2) pe_int (fun _ _ => rfl)) (pa_cons (pe_ix ix_list (pv 2) pe_int (fun _ _ => rfl)) pa_nil))))) pss_nil) (pss_cons (ps_if (pt_cmpR op_eq (pv 1) pe_int (nomark _)) (pss_one (ps_ret (pe_meth (pv 0) T.cl Q_age.m Q_age.ok hr_age Q_age.b .nil pass0 (pa_cons (pe_ix ix_list (pv 2) pe_int (fun _ _ => rfl)) pa_nil)))) pss_nil) (pss_cons (ps_if (pt_cmpR op_eq (pv 1) pe_int (nomark _)) (pss_one (ps_ret (pe_meth (pv 0) T.cl Q_how_many.m Q_how_many.ok hr_how_many Q_how_many.b .nil pass0 (pa_cons (pe_ix ix_list (pv 2) pe_int (fun _ _ => rfl)) (pa_cons (pe_ix ix_list (pv 2) pe_int (fun _ _ => rfl)) pa_nil))))) pss_nil) (pss_cons (ps_if (pt_cmpR op_eq (pv 1) pe_int (nomark _)) (pss_one (ps_ret (pe_meth (pv 0) T.cl Q_what_they_come_to.m Q_what_they_come_to.ok hr_what_they_come_to Q_what_they_come_to.b .nil pass0 (pa_cons (pe_ix ix_list (pv 2) pe_int (fun _ _ => rfl)) (pa_cons (pe_ix ix_list (pv 2) pe_int (fun _ _ => rfl)) pa_nil))))) pss_nil) (pss_cons (ps_if (pt_cmpR op_eq (pv 1) pe_int (nomark _)) (pss_one (ps_ret (pe_meth (pv 0) T.cl Q_greatest_there.m Q_greatest_there.ok hr_greatest_there Q_greatest_there.b .nil pass0 (pa_cons (pe_ix ix_list (pv 2) pe_int (fun _ _ => rfl)) (pa_cons (pe_ix ix_list (pv 2) pe_int (fun _ _ => rfl)) pa_nil))))) pss_nil) (pss_cons (ps_if (pt_cmpR op_eq (pv 1) pe_int (nomark _)) (pss_one (ps_ret (pe_meth0 (pv 0) T.cl Q_edges.m Q_edges.ok hr_edges Q_edges.b .nil pass0))) pss_nil) (pss_one (ps_ret (pe_meth (pv 0) T.cl Q_buckets_in_order.m Q_buckets_in_order.ok hr_buckets_in_order Q_buckets_in_order.b .nil pass0 (pa_cons (pe_ix ix_list (pv 2) pe_int (fun _ _ => rfl)) pa_nil))))))))))), ?_⟩
    cases hc with
    | begin_ w v k0 k1 k2 =>
      refine sq_eq (val_var rfl) (st_retMeth (val_var rfl) hp (hF_no _ _ _ _ (by decide +kernel)) (va_cons (val_ixL (val_var rfl) val_c hS rfl) (va_cons (val_ixL (val_var rfl) val_c hS rfl) (va_cons (val_ixL (val_var rfl) val_c hS rfl) (va_cons (val_ixL (val_var rfl) val_c hS rfl) (va_cons (val_ixL (val_var rfl) val_c hS rfl) va_nil))))) ?_)
      exact ⟨p, h, s, b, l, w, v, k0, k1, k2, rfl, B, q⟩
    | sample t v =>
      refine sq_ne (val_var rfl) (by decide) (sq_eq (val_var rfl) (st_retMeth (val_var rfl) hp (hF_no _ _ _ _ (by decide +kernel)) (va_cons (val_ixL (val_var rfl) val_c hS rfl) (va_cons (val_ixL (val_var rfl) val_c hS rfl) va_nil)) ?_))
      exact ⟨p, h, s, b, l, t, v, rfl, B, q⟩
    | age t =>
      refine sq_ne (val_var rfl) (by decide) (sq_ne (val_var rfl) (by decide) (sq_eq (val_var rfl) (st_retMeth (val_var rfl) hp (hF_no _ _ _ _ (by decide +kernel)) (va_cons (val_ixL (val_var rfl) val_c hS rfl) va_nil) ?_)))
      exact ⟨p, h, s, b, l, t, rfl, B, q⟩
    | count a c =>
      refine sq_ne (val_var rfl) (by decide) (sq_ne (val_var rfl) (by decide) (sq_ne (val_var rfl) (by decide) (sq_eq (val_var rfl) (st_retMeth (val_var rfl) hp (hF_no _ _ _ _ (by decide +kernel)) (va_cons (val_ixL (val_var rfl) val_c hS rfl) (va_cons (val_ixL (val_var rfl) val_c hS rfl) va_nil)) ?_))))
      exact ⟨p, h, s, b, l, a, c, rfl, B, q⟩
    | sum a c =>
      refine sq_ne (val_var rfl) (by decide) (sq_ne (val_var rfl) (by decide) (sq_ne (val_var rfl) (by decide) (sq_ne (val_var rfl) (by decide) (sq_eq (val_var rfl) (st_retMeth (val_var rfl) hp (hF_no _ _ _ _ (by decide +kernel)) (va_cons (val_ixL (val_var rfl) val_c hS rfl) (va_cons (val_ixL (val_var rfl) val_c hS rfl) va_nil)) ?_)))))
      exact ⟨p, h, s, b, l, a, c, rfl, B, q⟩
    | most a c =>
      refine sq_ne (val_var rfl) (by decide) (sq_ne (val_var rfl) (by decide) (sq_ne (val_var rfl) (by decide) (sq_ne (val_var rfl) (by decide) (sq_ne (val_var rfl) (by decide) (sq_eq (val_var rfl) (st_retMeth (val_var rfl) hp (hF_no _ _ _ _ (by decide +kernel)) (va_cons (val_ixL (val_var rfl) val_c hS rfl) (va_cons (val_ixL (val_var rfl) val_c hS rfl) va_nil)) ?_))))))
      exact ⟨p, h, s, b, l, a, c, rfl, B, q⟩
    | edges  =>
      refine sq_ne (val_var rfl) (by decide) (sq_ne (val_var rfl) (by decide) (sq_ne (val_var rfl) (by decide) (sq_ne (val_var rfl) (by decide) (sq_ne (val_var rfl) (by decide) (sq_ne (val_var rfl) (by decide) (sq_eq (val_var rfl) (st_retMeth (val_var rfl) hp (hF_no _ _ _ _ (by decide +kernel)) va_nil ?_)))))))
      exact ⟨p, h, s, b, l, rfl, B, q⟩
    | buckets i =>
      refine sq_ne (val_var rfl) (by decide) (sq_ne (val_var rfl) (by decide) (sq_ne (val_var rfl) (by decide) (sq_ne (val_var rfl) (by decide) (sq_ne (val_var rfl) (by decide) (sq_ne (val_var rfl) (by decide) (sq_ne (val_var rfl) (by decide) (st_retMeth (val_var rfl) hp (hF_no _ _ _ _ (by decide +kernel)) (va_cons (val_ixL (val_var rfl) val_c hS rfl) va_nil) ?_)))))))
      exact ⟨p, h, s, b, l, i, rfl, B, q⟩
end
end Ck

set_option Elab.async false
set_option linter.all false
set_option maxRecDepth 100000
set_option maxHeartbeats 2000000
namespace Ck
open PySem PySem.Spec PyProof.Rows L2 CkL
open PySem.W (Codec)
theorem given_of {K : PySem.W.Frag} {CG : Addr} {t1 u1 t2 u2 t3 u3 t4 u4 t5 u5 t6 u6 t7 u7 t8 u8 : Tok} {ep : Nat} (h : K.lookup CG = some ⟨.type "dict", none, .dict #[⟨1, .int 1 t1, .int 5 u1⟩, ⟨2, .int 2 t2, .int 2 u2⟩, ⟨3, .int 3 t3, .int 1 u3⟩, ⟨4, .int 4 t4, .int 2 u4⟩, ⟨5, .int 5 t5, .int 2 u5⟩, ⟨6, .int 6 t6, .int 2 u6⟩, ⟨7, .int 7 t7, .int 0 u7⟩, ⟨8, .int 8 t8, .int 1 u8⟩] ep, #[]⟩) : ∀ (n : Int) (k : Nat), PySq38.shape n = some (k, 0) → KDctI K CG n (.int k) := by
  have ks : KeysI [⟨1, .int 1 t1, .int 5 u1⟩, ⟨2, .int 2 t2, .int 2 u2⟩, ⟨3, .int 3 t3, .int 1 u3⟩, ⟨4, .int 4 t4, .int 2 u4⟩, ⟨5, .int 5 t5, .int 2 u5⟩, ⟨6, .int 6 t6, .int 2 u6⟩, ⟨7, .int 7 t7, .int 0 u7⟩, ⟨8, .int 8 t8, .int 1 u8⟩] := by
    intro en hen
    rcases List.mem_cons.mp hen with rfl | hen
    · exact ⟨1, t1, rfl, rfl⟩
    rcases List.mem_cons.mp hen with rfl | hen
    · exact ⟨2, t2, rfl, rfl⟩
    rcases List.mem_cons.mp hen with rfl | hen
    · exact ⟨3, t3, rfl, rfl⟩
    rcases List.mem_cons.mp hen with rfl | hen
    · exact ⟨4, t4, rfl, rfl⟩
    rcases List.mem_cons.mp hen with rfl | hen
    · exact ⟨5, t5, rfl, rfl⟩
    rcases List.mem_cons.mp hen with rfl | hen
    · exact ⟨6, t6, rfl, rfl⟩
    rcases List.mem_cons.mp hen with rfl | hen
    · exact ⟨7, t7, rfl, rfl⟩
    rcases List.mem_cons.mp hen with rfl | hen
    · exact ⟨8, t8, rfl, rfl⟩
    cases hen
  intro n k hs
  obtain ⟨_, hc⟩ := shape_cases hs
  rcases hc with ⟨rfl, rfl⟩ | ⟨rfl, rfl⟩ | ⟨rfl, rfl⟩ | ⟨rfl, rfl⟩ | ⟨rfl, rfl⟩ | ⟨rfl, rfl⟩ | ⟨rfl, rfl⟩ | ⟨rfl, rfl⟩
  · exact ⟨_, _, .int 5 u1, h, ks, rfl, ⟨u1, rfl⟩⟩
  · exact ⟨_, _, .int 2 u2, h, ks, rfl, ⟨u2, rfl⟩⟩
  · exact ⟨_, _, .int 1 u3, h, ks, rfl, ⟨u3, rfl⟩⟩
  · exact ⟨_, _, .int 2 u4, h, ks, rfl, ⟨u4, rfl⟩⟩
  · exact ⟨_, _, .int 2 u5, h, ks, rfl, ⟨u5, rfl⟩⟩
  · exact ⟨_, _, .int 2 u6, h, ks, rfl, ⟨u6, rfl⟩⟩
  · exact ⟨_, _, .int 0 u7, h, ks, rfl, ⟨u7, rfl⟩⟩
  · exact ⟨_, _, .int 1 u8, h, ks, rfl, ⟨u8, rfl⟩⟩
theorem all_mk {P : Program} {w : World} {K : PySem.W.Frag} {h : Heap} {mg : Str → Option Value} {fa CB C f_times_within f_known_within f_number_bounds f_least_sum f_greatest_sum f_sum_bounds f_may_lie_within f_added_up f_Bucket___init__ f_bucket_of_one f_joined f_numbers_of f_beginning_of_stretch f_put_into_stretches f_widths_fit f_times_fit f_set_up f_House___init__ f_begin f_sample f_move_edges f_forget_larger f_age f_kept f_refused_stretch f_how_many f_what_they_come_to f_greatest_there f_edges f_buckets_in_order f_answer f_answers CG : Addr} (X : K.In h) (G : h.Ns mainGlobals mg) (hfa : mg "answers" = some (.ref fa))
    {od_times_within an_times_within od_known_within an_known_within od_number_bounds an_number_bounds od_least_sum an_least_sum od_greatest_sum an_greatest_sum od_sum_bounds an_sum_bounds od_may_lie_within an_may_lie_within od_added_up an_added_up od_Bucket___init__ an_Bucket___init__ od_bucket_of_one an_bucket_of_one od_joined an_joined od_numbers_of an_numbers_of od_beginning_of_stretch an_beginning_of_stretch od_put_into_stretches an_put_into_stretches od_widths_fit an_widths_fit od_times_fit an_times_fit od_set_up an_set_up od_House___init__ an_House___init__ od_begin an_begin od_sample an_sample od_move_edges an_move_edges od_forget_larger an_forget_larger od_age an_age od_kept an_kept od_refused_stretch an_refused_stretch od_how_many an_how_many od_what_they_come_to an_what_they_come_to od_greatest_there an_greatest_there od_edges an_edges od_buckets_in_order an_buckets_in_order od_answer an_answer od_answers an_answers : Option Addr} {sl_times_within sl_known_within sl_number_bounds sl_least_sum sl_greatest_sum sl_sum_bounds sl_may_lie_within sl_added_up sl_Bucket___init__ sl_bucket_of_one sl_joined sl_numbers_of sl_beginning_of_stretch sl_put_into_stretches sl_widths_fit sl_times_fit sl_set_up sl_House___init__ sl_begin sl_sample sl_move_edges sl_forget_larger sl_age sl_kept sl_refused_stretch sl_how_many sl_what_they_come_to sl_greatest_there sl_edges sl_buckets_in_order sl_answer sl_answers : Array (Option Value)} {oc_times_within kV_times_within dc_times_within pm_times_within cd_times_within ct_times_within oc_known_within kV_known_within dc_known_within pm_known_within cd_known_within ct_known_within oc_number_bounds kV_number_bounds dc_number_bounds pm_number_bounds cd_number_bounds ct_number_bounds oc_least_sum kV_least_sum dc_least_sum pm_least_sum cd_least_sum ct_least_sum oc_greatest_sum kV_greatest_sum dc_greatest_sum pm_greatest_sum cd_greatest_sum ct_greatest_sum oc_sum_bounds kV_sum_bounds dc_sum_bounds pm_sum_bounds cd_sum_bounds ct_sum_bounds oc_may_lie_within kV_may_lie_within dc_may_lie_within pm_may_lie_within cd_may_lie_within ct_may_lie_within oc_added_up kV_added_up dc_added_up pm_added_up cd_added_up ct_added_up oc_Bucket___init__ kV_Bucket___init__ dc_Bucket___init__ pm_Bucket___init__ cd_Bucket___init__ ct_Bucket___init__ oc_bucket_of_one kV_bucket_of_one dc_bucket_of_one pm_bucket_of_one cd_bucket_of_one ct_bucket_of_one oc_joined kV_joined dc_joined pm_joined cd_joined ct_joined oc_numbers_of kV_numbers_of dc_numbers_of pm_numbers_of cd_numbers_of ct_numbers_of oc_beginning_of_stretch kV_beginning_of_stretch dc_beginning_of_stretch pm_beginning_of_stretch cd_beginning_of_stretch ct_beginning_of_stretch oc_put_into_stretches kV_put_into_stretches dc_put_into_stretches pm_put_into_stretches cd_put_into_stretches ct_put_into_stretches oc_widths_fit kV_widths_fit dc_widths_fit pm_widths_fit cd_widths_fit ct_widths_fit oc_times_fit kV_times_fit dc_times_fit pm_times_fit cd_times_fit ct_times_fit oc_set_up kV_set_up dc_set_up pm_set_up cd_set_up ct_set_up oc_House___init__ kV_House___init__ dc_House___init__ pm_House___init__ cd_House___init__ ct_House___init__ oc_begin kV_begin dc_begin pm_begin cd_begin ct_begin oc_sample kV_sample dc_sample pm_sample cd_sample ct_sample oc_move_edges kV_move_edges dc_move_edges pm_move_edges cd_move_edges ct_move_edges oc_forget_larger kV_forget_larger dc_forget_larger pm_forget_larger cd_forget_larger ct_forget_larger oc_age kV_age dc_age pm_age cd_age ct_age oc_kept kV_kept dc_kept pm_kept cd_kept ct_kept oc_refused_stretch kV_refused_stretch dc_refused_stretch pm_refused_stretch cd_refused_stretch ct_refused_stretch oc_how_many kV_how_many dc_how_many pm_how_many cd_how_many ct_how_many oc_what_they_come_to kV_what_they_come_to dc_what_they_come_to pm_what_they_come_to cd_what_they_come_to ct_what_they_come_to oc_greatest_there kV_greatest_there dc_greatest_there pm_greatest_there cd_greatest_there ct_greatest_there oc_edges kV_edges dc_edges pm_edges cd_edges ct_edges oc_buckets_in_order kV_buckets_in_order dc_buckets_in_order pm_buckets_in_order cd_buckets_in_order ct_buckets_in_order oc_answer kV_answer dc_answer pm_answer cd_answer ct_answer oc_answers kV_answers dc_answers pm_answers cd_answers ct_answers : Value} {t_LIMIT t_LATEST_NOW t_MOST_SAMPLES tk1_GIVEN tv1_GIVEN tk2_GIVEN tv2_GIVEN tk3_GIVEN tv3_GIVEN tk4_GIVEN tv4_GIVEN tk5_GIVEN tv5_GIVEN tk6_GIVEN tv6_GIVEN tk7_GIVEN tv7_GIVEN tk8_GIVEN tv8_GIVEN : Tok} {ep_GIVEN : Nat}
    (aCB : PySem.W.nsIn K mainGlobals "Bucket" = some (some (.ref CB)))
    (pgCB : PySem.W.plainGet K CB Str.empty = true)
    (hdCB : PySem.W.hasDictIn K CB = true)
    (poCB : PySem.W.plainOver K CB = true)
    (saCB : PySem.W.findIn K (.ref CB) "__setattr__" = some (some (.builtin "object.__setattr__")))
    (mkCB : PySem.W.makesIn K CB = true)
    (kcCB : PySem.W.keepIn K (.ref CB) = true)
    (n_N : PySem.W.findIn K (.ref CB) "number" = some none)
    (n_F : PySem.W.findIn K (.ref CB) "first" = some none)
    (n_L : PySem.W.findIn K (.ref CB) "last" = some none)
    (n_T : PySem.W.findIn K (.ref CB) "total" = some none)
    (n_E : PySem.W.findIn K (.ref CB) "least" = some none)
    (n_G : PySem.W.findIn K (.ref CB) "greatest" = some none)
    (aC : PySem.W.nsIn K mainGlobals "House" = some (some (.ref C)))
    (pgC : PySem.W.plainGet K C Str.empty = true)
    (hdC : PySem.W.hasDictIn K C = true)
    (poC : PySem.W.plainOver K C = true)
    (saC : PySem.W.findIn K (.ref C) "__setattr__" = some (some (.builtin "object.__setattr__")))
    (mkC : PySem.W.makesIn K C = true)
    (kcC : PySem.W.keepIn K (.ref C) = true)
    (n_hw : PySem.W.findIn K (.ref C) "width" = some none)
    (n_hv : PySem.W.findIn K (.ref C) "wide" = some none)
    (n_h0 : PySem.W.findIn K (.ref C) "samples_time" = some none)
    (n_h1 : PySem.W.findIn K (.ref C) "buckets_time" = some none)
    (n_h2 : PySem.W.findIn K (.ref C) "larger_time" = some none)
    (n_x0 : PySem.W.findIn K (.ref C) "e0" = some none)
    (n_x1 : PySem.W.findIn K (.ref C) "e1" = some none)
    (n_x2 : PySem.W.findIn K (.ref C) "e2" = some none)
    (n_hs : PySem.W.findIn K (.ref C) "samples" = some none)
    (n_hb : PySem.W.findIn K (.ref C) "buckets" = some none)
    (n_hl : PySem.W.findIn K (.ref C) "larger" = some none)
    (a_times_within : PySem.W.nsIn K mainGlobals "times_within" = some (some (.ref f_times_within)))
    (l_times_within : K.lookup f_times_within = some ⟨oc_times_within, od_times_within, .func (PySem.W.fnOf "times_within" "times_within" (defArgs sTimes) (defBody sTimes) (defScope sTimes) .none kV_times_within dc_times_within pm_times_within an_times_within cd_times_within ct_times_within), sl_times_within⟩)
    (c_times_within : PySem.W.codeIn K cd_times_within "times_within" = true)
    (k_times_within : PySem.W.keepIn K (.ref f_times_within) = true)
    (a_known_within : PySem.W.nsIn K mainGlobals "known_within" = some (some (.ref f_known_within)))
    (l_known_within : K.lookup f_known_within = some ⟨oc_known_within, od_known_within, .func (PySem.W.fnOf "known_within" "known_within" (defArgs sKnown) (defBody sKnown) (defScope sKnown) .none kV_known_within dc_known_within pm_known_within an_known_within cd_known_within ct_known_within), sl_known_within⟩)
    (c_known_within : PySem.W.codeIn K cd_known_within "known_within" = true)
    (k_known_within : PySem.W.keepIn K (.ref f_known_within) = true)
    (a_number_bounds : PySem.W.nsIn K mainGlobals "number_bounds" = some (some (.ref f_number_bounds)))
    (l_number_bounds : K.lookup f_number_bounds = some ⟨oc_number_bounds, od_number_bounds, .func (PySem.W.fnOf "number_bounds" "number_bounds" (defArgs sNumber) (defBody sNumber) (defScope sNumber) .none kV_number_bounds dc_number_bounds pm_number_bounds an_number_bounds cd_number_bounds ct_number_bounds), sl_number_bounds⟩)
    (c_number_bounds : PySem.W.codeIn K cd_number_bounds "number_bounds" = true)
    (k_number_bounds : PySem.W.keepIn K (.ref f_number_bounds) = true)
    (a_least_sum : PySem.W.nsIn K mainGlobals "least_sum" = some (some (.ref f_least_sum)))
    (l_least_sum : K.lookup f_least_sum = some ⟨oc_least_sum, od_least_sum, .func (PySem.W.fnOf "least_sum" "least_sum" (defArgs sLeast) (defBody sLeast) (defScope sLeast) .none kV_least_sum dc_least_sum pm_least_sum an_least_sum cd_least_sum ct_least_sum), sl_least_sum⟩)
    (c_least_sum : PySem.W.codeIn K cd_least_sum "least_sum" = true)
    (k_least_sum : PySem.W.keepIn K (.ref f_least_sum) = true)
    (a_greatest_sum : PySem.W.nsIn K mainGlobals "greatest_sum" = some (some (.ref f_greatest_sum)))
    (l_greatest_sum : K.lookup f_greatest_sum = some ⟨oc_greatest_sum, od_greatest_sum, .func (PySem.W.fnOf "greatest_sum" "greatest_sum" (defArgs sGreat) (defBody sGreat) (defScope sGreat) .none kV_greatest_sum dc_greatest_sum pm_greatest_sum an_greatest_sum cd_greatest_sum ct_greatest_sum), sl_greatest_sum⟩)
    (c_greatest_sum : PySem.W.codeIn K cd_greatest_sum "greatest_sum" = true)
    (k_greatest_sum : PySem.W.keepIn K (.ref f_greatest_sum) = true)
    (a_sum_bounds : PySem.W.nsIn K mainGlobals "sum_bounds" = some (some (.ref f_sum_bounds)))
    (l_sum_bounds : K.lookup f_sum_bounds = some ⟨oc_sum_bounds, od_sum_bounds, .func (PySem.W.fnOf "sum_bounds" "sum_bounds" (defArgs sSumB) (defBody sSumB) (defScope sSumB) .none kV_sum_bounds dc_sum_bounds pm_sum_bounds an_sum_bounds cd_sum_bounds ct_sum_bounds), sl_sum_bounds⟩)
    (c_sum_bounds : PySem.W.codeIn K cd_sum_bounds "sum_bounds" = true)
    (k_sum_bounds : PySem.W.keepIn K (.ref f_sum_bounds) = true)
    (a_may_lie_within : PySem.W.nsIn K mainGlobals "may_lie_within" = some (some (.ref f_may_lie_within)))
    (l_may_lie_within : K.lookup f_may_lie_within = some ⟨oc_may_lie_within, od_may_lie_within, .func (PySem.W.fnOf "may_lie_within" "may_lie_within" (defArgs sMay) (defBody sMay) (defScope sMay) .none kV_may_lie_within dc_may_lie_within pm_may_lie_within an_may_lie_within cd_may_lie_within ct_may_lie_within), sl_may_lie_within⟩)
    (c_may_lie_within : PySem.W.codeIn K cd_may_lie_within "may_lie_within" = true)
    (k_may_lie_within : PySem.W.keepIn K (.ref f_may_lie_within) = true)
    (a_added_up : PySem.W.nsIn K mainGlobals "added_up" = some (some (.ref f_added_up)))
    (l_added_up : K.lookup f_added_up = some ⟨oc_added_up, od_added_up, .func (PySem.W.fnOf "added_up" "added_up" (defArgs sAdded) (defBody sAdded) (defScope sAdded) .none kV_added_up dc_added_up pm_added_up an_added_up cd_added_up ct_added_up), sl_added_up⟩)
    (c_added_up : PySem.W.codeIn K cd_added_up "added_up" = true)
    (k_added_up : PySem.W.keepIn K (.ref f_added_up) = true)
    (a_Bucket___init__ : PySem.W.findIn K (.ref CB) "__init__" = some (some (.ref f_Bucket___init__)))
    (i_Bucket___init__ : PySem.W.isFn K (.ref f_Bucket___init__) = true)
    (l_Bucket___init__ : K.lookup f_Bucket___init__ = some ⟨oc_Bucket___init__, od_Bucket___init__, .func (PySem.W.fnOf "__init__" "Bucket.__init__" (defArgs sBInit) (defBody sBInit) (defScope sBInit) .none kV_Bucket___init__ dc_Bucket___init__ pm_Bucket___init__ an_Bucket___init__ cd_Bucket___init__ ct_Bucket___init__), sl_Bucket___init__⟩)
    (c_Bucket___init__ : PySem.W.codeIn K cd_Bucket___init__ "Bucket.__init__" = true)
    (k_Bucket___init__ : PySem.W.keepIn K (.ref f_Bucket___init__) = true)
    (a_bucket_of_one : PySem.W.nsIn K mainGlobals "bucket_of_one" = some (some (.ref f_bucket_of_one)))
    (l_bucket_of_one : K.lookup f_bucket_of_one = some ⟨oc_bucket_of_one, od_bucket_of_one, .func (PySem.W.fnOf "bucket_of_one" "bucket_of_one" (defArgs sOne) (defBody sOne) (defScope sOne) .none kV_bucket_of_one dc_bucket_of_one pm_bucket_of_one an_bucket_of_one cd_bucket_of_one ct_bucket_of_one), sl_bucket_of_one⟩)
    (c_bucket_of_one : PySem.W.codeIn K cd_bucket_of_one "bucket_of_one" = true)
    (k_bucket_of_one : PySem.W.keepIn K (.ref f_bucket_of_one) = true)
    (a_joined : PySem.W.nsIn K mainGlobals "joined" = some (some (.ref f_joined)))
    (l_joined : K.lookup f_joined = some ⟨oc_joined, od_joined, .func (PySem.W.fnOf "joined" "joined" (defArgs sJoined) (defBody sJoined) (defScope sJoined) .none kV_joined dc_joined pm_joined an_joined cd_joined ct_joined), sl_joined⟩)
    (c_joined : PySem.W.codeIn K cd_joined "joined" = true)
    (k_joined : PySem.W.keepIn K (.ref f_joined) = true)
    (a_numbers_of : PySem.W.nsIn K mainGlobals "numbers_of" = some (some (.ref f_numbers_of)))
    (l_numbers_of : K.lookup f_numbers_of = some ⟨oc_numbers_of, od_numbers_of, .func (PySem.W.fnOf "numbers_of" "numbers_of" (defArgs sNums) (defBody sNums) (defScope sNums) .none kV_numbers_of dc_numbers_of pm_numbers_of an_numbers_of cd_numbers_of ct_numbers_of), sl_numbers_of⟩)
    (c_numbers_of : PySem.W.codeIn K cd_numbers_of "numbers_of" = true)
    (k_numbers_of : PySem.W.keepIn K (.ref f_numbers_of) = true)
    (a_beginning_of_stretch : PySem.W.nsIn K mainGlobals "beginning_of_stretch" = some (some (.ref f_beginning_of_stretch)))
    (l_beginning_of_stretch : K.lookup f_beginning_of_stretch = some ⟨oc_beginning_of_stretch, od_beginning_of_stretch, .func (PySem.W.fnOf "beginning_of_stretch" "beginning_of_stretch" (defArgs sBegin) (defBody sBegin) (defScope sBegin) .none kV_beginning_of_stretch dc_beginning_of_stretch pm_beginning_of_stretch an_beginning_of_stretch cd_beginning_of_stretch ct_beginning_of_stretch), sl_beginning_of_stretch⟩)
    (c_beginning_of_stretch : PySem.W.codeIn K cd_beginning_of_stretch "beginning_of_stretch" = true)
    (k_beginning_of_stretch : PySem.W.keepIn K (.ref f_beginning_of_stretch) = true)
    (a_put_into_stretches : PySem.W.nsIn K mainGlobals "put_into_stretches" = some (some (.ref f_put_into_stretches)))
    (l_put_into_stretches : K.lookup f_put_into_stretches = some ⟨oc_put_into_stretches, od_put_into_stretches, .func (PySem.W.fnOf "put_into_stretches" "put_into_stretches" (defArgs sPut) (defBody sPut) (defScope sPut) .none kV_put_into_stretches dc_put_into_stretches pm_put_into_stretches an_put_into_stretches cd_put_into_stretches ct_put_into_stretches), sl_put_into_stretches⟩)
    (c_put_into_stretches : PySem.W.codeIn K cd_put_into_stretches "put_into_stretches" = true)
    (k_put_into_stretches : PySem.W.keepIn K (.ref f_put_into_stretches) = true)
    (a_widths_fit : PySem.W.nsIn K mainGlobals "widths_fit" = some (some (.ref f_widths_fit)))
    (l_widths_fit : K.lookup f_widths_fit = some ⟨oc_widths_fit, od_widths_fit, .func (PySem.W.fnOf "widths_fit" "widths_fit" (defArgs sWidths) (defBody sWidths) (defScope sWidths) .none kV_widths_fit dc_widths_fit pm_widths_fit an_widths_fit cd_widths_fit ct_widths_fit), sl_widths_fit⟩)
    (c_widths_fit : PySem.W.codeIn K cd_widths_fit "widths_fit" = true)
    (k_widths_fit : PySem.W.keepIn K (.ref f_widths_fit) = true)
    (a_times_fit : PySem.W.nsIn K mainGlobals "times_fit" = some (some (.ref f_times_fit)))
    (l_times_fit : K.lookup f_times_fit = some ⟨oc_times_fit, od_times_fit, .func (PySem.W.fnOf "times_fit" "times_fit" (defArgs sFit) (defBody sFit) (defScope sFit) .none kV_times_fit dc_times_fit pm_times_fit an_times_fit cd_times_fit ct_times_fit), sl_times_fit⟩)
    (c_times_fit : PySem.W.codeIn K cd_times_fit "times_fit" = true)
    (k_times_fit : PySem.W.keepIn K (.ref f_times_fit) = true)
    (a_set_up : PySem.W.findIn K (.ref C) "set_up" = some (some (.ref f_set_up)))
    (i_set_up : PySem.W.isFn K (.ref f_set_up) = true)
    (l_set_up : K.lookup f_set_up = some ⟨oc_set_up, od_set_up, .func (PySem.W.fnOf "set_up" "House.set_up" (defArgs sSetUp) (defBody sSetUp) (defScope sSetUp) .none kV_set_up dc_set_up pm_set_up an_set_up cd_set_up ct_set_up), sl_set_up⟩)
    (c_set_up : PySem.W.codeIn K cd_set_up "House.set_up" = true)
    (k_set_up : PySem.W.keepIn K (.ref f_set_up) = true)
    (a_House___init__ : PySem.W.findIn K (.ref C) "__init__" = some (some (.ref f_House___init__)))
    (i_House___init__ : PySem.W.isFn K (.ref f_House___init__) = true)
    (l_House___init__ : K.lookup f_House___init__ = some ⟨oc_House___init__, od_House___init__, .func (PySem.W.fnOf "__init__" "House.__init__" (defArgs sInit) (defBody sInit) (defScope sInit) .none kV_House___init__ dc_House___init__ pm_House___init__ an_House___init__ cd_House___init__ ct_House___init__), sl_House___init__⟩)
    (c_House___init__ : PySem.W.codeIn K cd_House___init__ "House.__init__" = true)
    (k_House___init__ : PySem.W.keepIn K (.ref f_House___init__) = true)
    (a_begin : PySem.W.findIn K (.ref C) "begin" = some (some (.ref f_begin)))
    (i_begin : PySem.W.isFn K (.ref f_begin) = true)
    (l_begin : K.lookup f_begin = some ⟨oc_begin, od_begin, .func (PySem.W.fnOf "begin" "House.begin" (defArgs sHBegin) (defBody sHBegin) (defScope sHBegin) .none kV_begin dc_begin pm_begin an_begin cd_begin ct_begin), sl_begin⟩)
    (c_begin : PySem.W.codeIn K cd_begin "House.begin" = true)
    (k_begin : PySem.W.keepIn K (.ref f_begin) = true)
    (a_sample : PySem.W.findIn K (.ref C) "sample" = some (some (.ref f_sample)))
    (i_sample : PySem.W.isFn K (.ref f_sample) = true)
    (l_sample : K.lookup f_sample = some ⟨oc_sample, od_sample, .func (PySem.W.fnOf "sample" "House.sample" (defArgs sSample) (defBody sSample) (defScope sSample) .none kV_sample dc_sample pm_sample an_sample cd_sample ct_sample), sl_sample⟩)
    (c_sample : PySem.W.codeIn K cd_sample "House.sample" = true)
    (k_sample : PySem.W.keepIn K (.ref f_sample) = true)
    (a_move_edges : PySem.W.findIn K (.ref C) "move_edges" = some (some (.ref f_move_edges)))
    (i_move_edges : PySem.W.isFn K (.ref f_move_edges) = true)
    (l_move_edges : K.lookup f_move_edges = some ⟨oc_move_edges, od_move_edges, .func (PySem.W.fnOf "move_edges" "House.move_edges" (defArgs sMove) (defBody sMove) (defScope sMove) .none kV_move_edges dc_move_edges pm_move_edges an_move_edges cd_move_edges ct_move_edges), sl_move_edges⟩)
    (c_move_edges : PySem.W.codeIn K cd_move_edges "House.move_edges" = true)
    (k_move_edges : PySem.W.keepIn K (.ref f_move_edges) = true)
    (a_forget_larger : PySem.W.findIn K (.ref C) "forget_larger" = some (some (.ref f_forget_larger)))
    (i_forget_larger : PySem.W.isFn K (.ref f_forget_larger) = true)
    (l_forget_larger : K.lookup f_forget_larger = some ⟨oc_forget_larger, od_forget_larger, .func (PySem.W.fnOf "forget_larger" "House.forget_larger" (defArgs sForget) (defBody sForget) (defScope sForget) .none kV_forget_larger dc_forget_larger pm_forget_larger an_forget_larger cd_forget_larger ct_forget_larger), sl_forget_larger⟩)
    (c_forget_larger : PySem.W.codeIn K cd_forget_larger "House.forget_larger" = true)
    (k_forget_larger : PySem.W.keepIn K (.ref f_forget_larger) = true)
    (a_age : PySem.W.findIn K (.ref C) "age" = some (some (.ref f_age)))
    (i_age : PySem.W.isFn K (.ref f_age) = true)
    (l_age : K.lookup f_age = some ⟨oc_age, od_age, .func (PySem.W.fnOf "age" "House.age" (defArgs sAge) (defBody sAge) (defScope sAge) .none kV_age dc_age pm_age an_age cd_age ct_age), sl_age⟩)
    (c_age : PySem.W.codeIn K cd_age "House.age" = true)
    (k_age : PySem.W.keepIn K (.ref f_age) = true)
    (a_kept : PySem.W.findIn K (.ref C) "kept" = some (some (.ref f_kept)))
    (i_kept : PySem.W.isFn K (.ref f_kept) = true)
    (l_kept : K.lookup f_kept = some ⟨oc_kept, od_kept, .func (PySem.W.fnOf "kept" "House.kept" (defArgs sKept) (defBody sKept) (defScope sKept) .none kV_kept dc_kept pm_kept an_kept cd_kept ct_kept), sl_kept⟩)
    (c_kept : PySem.W.codeIn K cd_kept "House.kept" = true)
    (k_kept : PySem.W.keepIn K (.ref f_kept) = true)
    (a_refused_stretch : PySem.W.findIn K (.ref C) "refused_stretch" = some (some (.ref f_refused_stretch)))
    (i_refused_stretch : PySem.W.isFn K (.ref f_refused_stretch) = true)
    (l_refused_stretch : K.lookup f_refused_stretch = some ⟨oc_refused_stretch, od_refused_stretch, .func (PySem.W.fnOf "refused_stretch" "House.refused_stretch" (defArgs sRefused) (defBody sRefused) (defScope sRefused) .none kV_refused_stretch dc_refused_stretch pm_refused_stretch an_refused_stretch cd_refused_stretch ct_refused_stretch), sl_refused_stretch⟩)
    (c_refused_stretch : PySem.W.codeIn K cd_refused_stretch "House.refused_stretch" = true)
    (k_refused_stretch : PySem.W.keepIn K (.ref f_refused_stretch) = true)
    (a_how_many : PySem.W.findIn K (.ref C) "how_many" = some (some (.ref f_how_many)))
    (i_how_many : PySem.W.isFn K (.ref f_how_many) = true)
    (l_how_many : K.lookup f_how_many = some ⟨oc_how_many, od_how_many, .func (PySem.W.fnOf "how_many" "House.how_many" (defArgs sHow) (defBody sHow) (defScope sHow) .none kV_how_many dc_how_many pm_how_many an_how_many cd_how_many ct_how_many), sl_how_many⟩)
    (c_how_many : PySem.W.codeIn K cd_how_many "House.how_many" = true)
    (k_how_many : PySem.W.keepIn K (.ref f_how_many) = true)
    (a_what_they_come_to : PySem.W.findIn K (.ref C) "what_they_come_to" = some (some (.ref f_what_they_come_to)))
    (i_what_they_come_to : PySem.W.isFn K (.ref f_what_they_come_to) = true)
    (l_what_they_come_to : K.lookup f_what_they_come_to = some ⟨oc_what_they_come_to, od_what_they_come_to, .func (PySem.W.fnOf "what_they_come_to" "House.what_they_come_to" (defArgs sCome) (defBody sCome) (defScope sCome) .none kV_what_they_come_to dc_what_they_come_to pm_what_they_come_to an_what_they_come_to cd_what_they_come_to ct_what_they_come_to), sl_what_they_come_to⟩)
    (c_what_they_come_to : PySem.W.codeIn K cd_what_they_come_to "House.what_they_come_to" = true)
    (k_what_they_come_to : PySem.W.keepIn K (.ref f_what_they_come_to) = true)
    (a_greatest_there : PySem.W.findIn K (.ref C) "greatest_there" = some (some (.ref f_greatest_there)))
    (i_greatest_there : PySem.W.isFn K (.ref f_greatest_there) = true)
    (l_greatest_there : K.lookup f_greatest_there = some ⟨oc_greatest_there, od_greatest_there, .func (PySem.W.fnOf "greatest_there" "House.greatest_there" (defArgs sTop) (defBody sTop) (defScope sTop) .none kV_greatest_there dc_greatest_there pm_greatest_there an_greatest_there cd_greatest_there ct_greatest_there), sl_greatest_there⟩)
    (c_greatest_there : PySem.W.codeIn K cd_greatest_there "House.greatest_there" = true)
    (k_greatest_there : PySem.W.keepIn K (.ref f_greatest_there) = true)
    (a_edges : PySem.W.findIn K (.ref C) "edges" = some (some (.ref f_edges)))
    (i_edges : PySem.W.isFn K (.ref f_edges) = true)
    (l_edges : K.lookup f_edges = some ⟨oc_edges, od_edges, .func (PySem.W.fnOf "edges" "House.edges" (defArgs sEdges) (defBody sEdges) (defScope sEdges) .none kV_edges dc_edges pm_edges an_edges cd_edges ct_edges), sl_edges⟩)
    (c_edges : PySem.W.codeIn K cd_edges "House.edges" = true)
    (k_edges : PySem.W.keepIn K (.ref f_edges) = true)
    (a_buckets_in_order : PySem.W.findIn K (.ref C) "buckets_in_order" = some (some (.ref f_buckets_in_order)))
    (i_buckets_in_order : PySem.W.isFn K (.ref f_buckets_in_order) = true)
    (l_buckets_in_order : K.lookup f_buckets_in_order = some ⟨oc_buckets_in_order, od_buckets_in_order, .func (PySem.W.fnOf "buckets_in_order" "House.buckets_in_order" (defArgs sOrder) (defBody sOrder) (defScope sOrder) .none kV_buckets_in_order dc_buckets_in_order pm_buckets_in_order an_buckets_in_order cd_buckets_in_order ct_buckets_in_order), sl_buckets_in_order⟩)
    (c_buckets_in_order : PySem.W.codeIn K cd_buckets_in_order "House.buckets_in_order" = true)
    (k_buckets_in_order : PySem.W.keepIn K (.ref f_buckets_in_order) = true)
    (a_answer : PySem.W.nsIn K mainGlobals "answer" = some (some (.ref f_answer)))
    (l_answer : K.lookup f_answer = some ⟨oc_answer, od_answer, .func (PySem.W.fnOf "answer" "answer" (defArgs sAnswer) (defBody sAnswer) (defScope sAnswer) .none kV_answer dc_answer pm_answer an_answer cd_answer ct_answer), sl_answer⟩)
    (c_answer : PySem.W.codeIn K cd_answer "answer" = true)
    (k_answer : PySem.W.keepIn K (.ref f_answer) = true)
    (a_answers : PySem.W.nsIn K mainGlobals "answers" = some (some (.ref f_answers)))
    (l_answers : K.lookup f_answers = some ⟨oc_answers, od_answers, .func (PySem.W.fnOf "answers" "answers" (defArgs sAnswers) (defBody sAnswers) (defScope sAnswers) .none kV_answers dc_answers pm_answers an_answers cd_answers ct_answers), sl_answers⟩)
    (c_answers : PySem.W.codeIn K cd_answers "answers" = true)
    (k_answers : PySem.W.keepIn K (.ref f_answers) = true)
    (b_max : PySem.W.nsIn K mainGlobals "max" = some none)
    (b_min : PySem.W.nsIn K mainGlobals "min" = some none)
    (b_len : PySem.W.nsIn K mainGlobals "len" = some none)
    (b_list : PySem.W.nsIn K mainGlobals "list" = some none)
    (b_sum : PySem.W.nsIn K mainGlobals "sum" = some none)
    (b_sorted : PySem.W.nsIn K mainGlobals "sorted" = some none)
    (q_LIMIT : PySem.W.nsIn K mainGlobals "LIMIT" = some (some (.int 1000000 t_LIMIT)))
    (q_LATEST_NOW : PySem.W.nsIn K mainGlobals "LATEST_NOW" = some (some (.int 2000000 t_LATEST_NOW)))
    (q_MOST_SAMPLES : PySem.W.nsIn K mainGlobals "MOST_SAMPLES" = some (some (.int 100 t_MOST_SAMPLES)))
    (q_GIVEN : PySem.W.nsIn K mainGlobals "GIVEN" = some (some (.ref CG)))
    (w_GIVEN : K.lookup CG = some ⟨.type "dict", none, .dict #[⟨1, .int 1 tk1_GIVEN, .int 5 tv1_GIVEN⟩, ⟨2, .int 2 tk2_GIVEN, .int 2 tv2_GIVEN⟩, ⟨3, .int 3 tk3_GIVEN, .int 1 tv3_GIVEN⟩, ⟨4, .int 4 tk4_GIVEN, .int 2 tv4_GIVEN⟩, ⟨5, .int 5 tk5_GIVEN, .int 2 tv5_GIVEN⟩, ⟨6, .int 6 tk6_GIVEN, .int 2 tv6_GIVEN⟩, ⟨7, .int 7 tk7_GIVEN, .int 0 tv7_GIVEN⟩, ⟨8, .int 8 tk8_GIVEN, .int 1 tv8_GIVEN⟩] ep_GIVEN, #[]⟩)
    (ne_C_CB : C ≠ CB)
    : ∃ fd : FuncData, (∀ (s : Shared) (us : List Value), us.length = (["calls"] : List Str).length → BindsTo s fd ⟨us, []⟩ ((["calls"] : List Str).zip us)) ∧ ∀ base : Heap, K.In base → base.Ns mainGlobals mg → FnOk P w K mg base CX0 7 fa fd ["calls"] (spAnswers K) := by
  have e := hfa.symm.trans (PySem.W.mg_of X G a_answers)
  cases e
  have T : Txt K mg C CB CG (fun i => if i = 0 then t_LIMIT else if i = 1 then t_LATEST_NOW else t_MOST_SAMPLES) := ⟨ne_C_CB, ⟨pgCB, hdCB, poCB, saCB⟩, n_N, n_F, n_L, n_T, n_E, n_G, ⟨pgC, hdC, poC, saC⟩, n_hw, n_hv, n_h0, n_h1, n_h2, n_x0, n_x1, n_x2, n_hs, n_hb, n_hl, PySem.W.mg_none_of X G b_max, PySem.W.mg_none_of X G b_min, PySem.W.mg_none_of X G b_len, PySem.W.mg_none_of X G b_list, PySem.W.mg_none_of X G b_sum, PySem.W.mg_none_of X G b_sorted, PySem.W.mg_of X G q_LIMIT, PySem.W.mg_of X G q_LATEST_NOW, PySem.W.mg_of X G q_MOST_SAMPLES, PySem.W.mg_of X G q_GIVEN, given_of w_GIVEN⟩
  have F_times_within := fun_mk (st := sTimes) l_times_within c_times_within k_times_within
  have B_times_within := F_times_within.binds (ps := ["begins", "ends", "a", "c"]) fun _ _ _ _ _ _ us hl => match us, hl with | [_, _, _, _], _ => rfl
  have F_known_within := fun_mk (st := sKnown) l_known_within c_known_within k_known_within
  have B_known_within := F_known_within.binds (ps := ["bucket", "a", "c"]) fun _ _ _ _ _ _ us hl => match us, hl with | [_, _, _], _ => rfl
  have F_number_bounds := fun_mk (st := sNumber) l_number_bounds c_number_bounds k_number_bounds
  have B_number_bounds := F_number_bounds.binds (ps := ["bucket", "a", "c"]) fun _ _ _ _ _ _ us hl => match us, hl with | [_, _, _], _ => rfl
  have F_least_sum := fun_mk (st := sLeast) l_least_sum c_least_sum k_least_sum
  have B_least_sum := F_least_sum.binds (ps := ["bucket", "within"]) fun _ _ _ _ _ _ us hl => match us, hl with | [_, _], _ => rfl
  have F_greatest_sum := fun_mk (st := sGreat) l_greatest_sum c_greatest_sum k_greatest_sum
  have B_greatest_sum := F_greatest_sum.binds (ps := ["bucket", "within"]) fun _ _ _ _ _ _ us hl => match us, hl with | [_, _], _ => rfl
  have F_sum_bounds := fun_mk (st := sSumB) l_sum_bounds c_sum_bounds k_sum_bounds
  have B_sum_bounds := F_sum_bounds.binds (ps := ["bucket", "a", "c"]) fun _ _ _ _ _ _ us hl => match us, hl with | [_, _, _], _ => rfl
  have F_may_lie_within := fun_mk (st := sMay) l_may_lie_within c_may_lie_within k_may_lie_within
  have B_may_lie_within := F_may_lie_within.binds (ps := ["bucket", "a", "c"]) fun _ _ _ _ _ _ us hl => match us, hl with | [_, _, _], _ => rfl
  have F_added_up := fun_mk (st := sAdded) l_added_up c_added_up k_added_up
  have B_added_up := F_added_up.binds (ps := ["pairs"]) fun _ _ _ _ _ _ us hl => match us, hl with | [_], _ => rfl
  have F_Bucket___init__ := fun_mk (st := sBInit) l_Bucket___init__ c_Bucket___init__ k_Bucket___init__
  have B_Bucket___init__ := F_Bucket___init__.binds (ps := ["self", "number", "first", "last", "total", "least", "greatest"]) fun _ _ _ _ _ _ us hl => match us, hl with | [_, _, _, _, _, _, _], _ => rfl
  have F_bucket_of_one := fun_mk (st := sOne) l_bucket_of_one c_bucket_of_one k_bucket_of_one
  have B_bucket_of_one := F_bucket_of_one.binds (ps := ["time", "value"]) fun _ _ _ _ _ _ us hl => match us, hl with | [_, _], _ => rfl
  have F_joined := fun_mk (st := sJoined) l_joined c_joined k_joined
  have B_joined := F_joined.binds (ps := ["one", "other"]) fun _ _ _ _ _ _ us hl => match us, hl with | [_, _], _ => rfl
  have F_numbers_of := fun_mk (st := sNums) l_numbers_of c_numbers_of k_numbers_of
  have B_numbers_of := F_numbers_of.binds (ps := ["bucket"]) fun _ _ _ _ _ _ us hl => match us, hl with | [_], _ => rfl
  have F_beginning_of_stretch := fun_mk (st := sBegin) l_beginning_of_stretch c_beginning_of_stretch k_beginning_of_stretch
  have B_beginning_of_stretch := F_beginning_of_stretch.binds (ps := ["time", "width"]) fun _ _ _ _ _ _ us hl => match us, hl with | [_, _], _ => rfl
  have F_put_into_stretches := fun_mk (st := sPut) l_put_into_stretches c_put_into_stretches k_put_into_stretches
  have B_put_into_stretches := F_put_into_stretches.binds (ps := ["finer", "coarser", "edge", "width"]) fun _ _ _ _ _ _ us hl => match us, hl with | [_, _, _, _], _ => rfl
  have F_widths_fit := fun_mk (st := sWidths) l_widths_fit c_widths_fit k_widths_fit
  have B_widths_fit := F_widths_fit.binds (ps := ["width", "wide"]) fun _ _ _ _ _ _ us hl => match us, hl with | [_, _], _ => rfl
  have F_times_fit := fun_mk (st := sFit) l_times_fit c_times_fit k_times_fit
  have B_times_fit := F_times_fit.binds (ps := ["samples_time", "buckets_time", "larger_time"]) fun _ _ _ _ _ _ us hl => match us, hl with | [_, _, _], _ => rfl
  have F_set_up := fun_mk (st := sSetUp) l_set_up c_set_up k_set_up
  have B_set_up := F_set_up.binds (ps := ["self", "width", "wide", "samples_time", "buckets_time", "larger_time"]) fun _ _ _ _ _ _ us hl => match us, hl with | [_, _, _, _, _, _], _ => rfl
  have F_House___init__ := fun_mk (st := sInit) l_House___init__ c_House___init__ k_House___init__
  have B_House___init__ := F_House___init__.binds (ps := ["self"]) fun _ _ _ _ _ _ us hl => match us, hl with | [_], _ => rfl
  have F_begin := fun_mk (st := sHBegin) l_begin c_begin k_begin
  have B_begin := F_begin.binds (ps := ["self", "width", "wide", "samples_time", "buckets_time", "larger_time"]) fun _ _ _ _ _ _ us hl => match us, hl with | [_, _, _, _, _, _], _ => rfl
  have F_sample := fun_mk (st := sSample) l_sample c_sample k_sample
  have B_sample := F_sample.binds (ps := ["self", "time", "value"]) fun _ _ _ _ _ _ us hl => match us, hl with | [_, _, _], _ => rfl
  have F_move_edges := fun_mk (st := sMove) l_move_edges c_move_edges k_move_edges
  have B_move_edges := F_move_edges.binds (ps := ["self", "now"]) fun _ _ _ _ _ _ us hl => match us, hl with | [_, _], _ => rfl
  have F_forget_larger := fun_mk (st := sForget) l_forget_larger c_forget_larger k_forget_larger
  have B_forget_larger := F_forget_larger.binds (ps := ["self"]) fun _ _ _ _ _ _ us hl => match us, hl with | [_], _ => rfl
  have F_age := fun_mk (st := sAge) l_age c_age k_age
  have B_age := F_age.binds (ps := ["self", "now"]) fun _ _ _ _ _ _ us hl => match us, hl with | [_, _], _ => rfl
  have F_kept := fun_mk (st := sKept) l_kept c_kept k_kept
  have B_kept := F_kept.binds (ps := ["self"]) fun _ _ _ _ _ _ us hl => match us, hl with | [_], _ => rfl
  have F_refused_stretch := fun_mk (st := sRefused) l_refused_stretch c_refused_stretch k_refused_stretch
  have B_refused_stretch := F_refused_stretch.binds (ps := ["self", "a", "c"]) fun _ _ _ _ _ _ us hl => match us, hl with | [_, _, _], _ => rfl
  have F_how_many := fun_mk (st := sHow) l_how_many c_how_many k_how_many
  have B_how_many := F_how_many.binds (ps := ["self", "a", "c"]) fun _ _ _ _ _ _ us hl => match us, hl with | [_, _, _], _ => rfl
  have F_what_they_come_to := fun_mk (st := sCome) l_what_they_come_to c_what_they_come_to k_what_they_come_to
  have B_what_they_come_to := F_what_they_come_to.binds (ps := ["self", "a", "c"]) fun _ _ _ _ _ _ us hl => match us, hl with | [_, _, _], _ => rfl
  have F_greatest_there := fun_mk (st := sTop) l_greatest_there c_greatest_there k_greatest_there
  have B_greatest_there := F_greatest_there.binds (ps := ["self", "a", "c"]) fun _ _ _ _ _ _ us hl => match us, hl with | [_, _, _], _ => rfl
  have F_edges := fun_mk (st := sEdges) l_edges c_edges k_edges
  have B_edges := F_edges.binds (ps := ["self"]) fun _ _ _ _ _ _ us hl => match us, hl with | [_], _ => rfl
  have F_buckets_in_order := fun_mk (st := sOrder) l_buckets_in_order c_buckets_in_order k_buckets_in_order
  have B_buckets_in_order := F_buckets_in_order.binds (ps := ["self", "i"]) fun _ _ _ _ _ _ us hl => match us, hl with | [_, _], _ => rfl
  have F_answer := fun_mk (st := sAnswer) l_answer c_answer k_answer
  have B_answer := F_answer.binds (ps := ["house", "number", "given"]) fun _ _ _ _ _ _ us hl => match us, hl with | [_, _, _], _ => rfl
  have F_answers := fun_mk (st := sAnswers) l_answers c_answers k_answers
  have B_answers := F_answers.binds (ps := ["calls"]) fun _ _ _ _ _ _ us hl => match us, hl with | [_], _ => rfl
  refine ⟨PySem.W.fnOf "answers" "answers" (defArgs sAnswers) (defBody sAnswers) (defScope sAnswers) .none kV_answers dc_answers pm_answers an_answers cd_answers ct_answers, fun s us hu => match us, hu with | [_], _ => .of_eq rfl, fun base _ _ => ?_⟩
  have G_times_within : Def P w K mg base "times_within" 1 ["begins", "ends", "a", "c"] (spTimes) f_times_within _ := ⟨ok_times F_times_within T, PySem.W.mg_of X G a_times_within, k_times_within, B_times_within⟩
  have G_known_within : Def P w K mg base "known_within" 2 ["bucket", "a", "c"] (spKnown CB) f_known_within _ := ⟨ok_known F_known_within T G_times_within, PySem.W.mg_of X G a_known_within, k_known_within, B_known_within⟩
  have G_number_bounds : Def P w K mg base "number_bounds" 3 ["bucket", "a", "c"] (spNumber CB) f_number_bounds _ := ⟨ok_number F_number_bounds T G_times_within G_known_within, PySem.W.mg_of X G a_number_bounds, k_number_bounds, B_number_bounds⟩
  have G_least_sum : Def P w K mg base "least_sum" 1 ["bucket", "within"] (spLeast CB) f_least_sum _ := ⟨ok_least F_least_sum T, PySem.W.mg_of X G a_least_sum, k_least_sum, B_least_sum⟩
  have G_greatest_sum : Def P w K mg base "greatest_sum" 1 ["bucket", "within"] (spGreat CB) f_greatest_sum _ := ⟨ok_great F_greatest_sum T, PySem.W.mg_of X G a_greatest_sum, k_greatest_sum, B_greatest_sum⟩
  have G_sum_bounds : Def P w K mg base "sum_bounds" 4 ["bucket", "a", "c"] (spSumB CB) f_sum_bounds _ := ⟨ok_sumb F_sum_bounds T G_number_bounds G_least_sum G_greatest_sum, PySem.W.mg_of X G a_sum_bounds, k_sum_bounds, B_sum_bounds⟩
  have G_may_lie_within : Def P w K mg base "may_lie_within" 4 ["bucket", "a", "c"] (spMay CB) f_may_lie_within _ := ⟨ok_may F_may_lie_within T G_number_bounds, PySem.W.mg_of X G a_may_lie_within, k_may_lie_within, B_may_lie_within⟩
  have G_added_up : Def P w K mg base "added_up" 1 ["pairs"] (spAdded) f_added_up _ := ⟨ok_added F_added_up T, PySem.W.mg_of X G a_added_up, k_added_up, B_added_up⟩
  have M_Bucket : Cla P w K mg base "Bucket" CB 1 ["self", "number", "first", "last", "total", "least", "greatest"] (spBInit CB) f_Bucket___init__ _ := ⟨⟨mkCB, a_Bucket___init__, i_Bucket___init__, kcCB⟩, ok_binit F_Bucket___init__ T, PySem.W.mg_of X G aCB, B_Bucket___init__⟩
  have G_bucket_of_one : Def P w K mg base "bucket_of_one" 3 ["time", "value"] (spOne CB) f_bucket_of_one _ := ⟨ok_one_ F_bucket_of_one T M_Bucket, PySem.W.mg_of X G a_bucket_of_one, k_bucket_of_one, B_bucket_of_one⟩
  have G_joined : Def P w K mg base "joined" 3 ["one", "other"] (spJoined CB) f_joined _ := ⟨ok_joined F_joined T M_Bucket, PySem.W.mg_of X G a_joined, k_joined, B_joined⟩
  have G_numbers_of : Def P w K mg base "numbers_of" 1 ["bucket"] (spNums CB) f_numbers_of _ := ⟨ok_nums F_numbers_of T, PySem.W.mg_of X G a_numbers_of, k_numbers_of, B_numbers_of⟩
  have G_beginning_of_stretch : Def P w K mg base "beginning_of_stretch" 1 ["time", "width"] (spBegin) f_beginning_of_stretch _ := ⟨ok_begin_ F_beginning_of_stretch , PySem.W.mg_of X G a_beginning_of_stretch, k_beginning_of_stretch, B_beginning_of_stretch⟩
  have G_put_into_stretches : Def P w K mg base "put_into_stretches" 4 ["finer", "coarser", "edge", "width"] (spPut CB) f_put_into_stretches _ := ⟨ok_put_ F_put_into_stretches T G_beginning_of_stretch G_joined, PySem.W.mg_of X G a_put_into_stretches, k_put_into_stretches, B_put_into_stretches⟩
  have G_widths_fit : Def P w K mg base "widths_fit" 1 ["width", "wide"] (spWidths) f_widths_fit _ := ⟨ok_widths F_widths_fit T, PySem.W.mg_of X G a_widths_fit, k_widths_fit, B_widths_fit⟩
  have G_times_fit : Def P w K mg base "times_fit" 1 ["samples_time", "buckets_time", "larger_time"] (spFit) f_times_fit _ := ⟨ok_fit F_times_fit T, PySem.W.mg_of X G a_times_fit, k_times_fit, B_times_fit⟩
  have Q_set_up : Mth P w K mg base C "set_up" 1 ["self", "width", "wide", "samples_time", "buckets_time", "larger_time"] (spSetUp C CB) f_set_up _ := ⟨ok_setup F_set_up T, ⟨a_set_up, i_set_up, k_set_up⟩, B_set_up⟩
  have M_House : Cla P w K mg base "House" C 2 ["self"] (spInit C CB) f_House___init__ _ := ⟨⟨mkC, a_House___init__, i_House___init__, kcC⟩, ok_init F_House___init__ T Q_set_up, PySem.W.mg_of X G aC, B_House___init__⟩
  have Q_begin : Mth P w K mg base C "begin" 2 ["self", "width", "wide", "samples_time", "buckets_time", "larger_time"] (spHBegin C CB) f_begin _ := ⟨ok_hbegin F_begin T Q_set_up G_widths_fit G_times_fit, ⟨a_begin, i_begin, k_begin⟩, B_begin⟩
  have Q_sample : Mth P w K mg base C "sample" 4 ["self", "time", "value"] (spSample C CB) f_sample _ := ⟨ok_sample F_sample T G_bucket_of_one, ⟨a_sample, i_sample, k_sample⟩, B_sample⟩
  have Q_move_edges : Mth P w K mg base C "move_edges" 2 ["self", "now"] (spMove C) f_move_edges _ := ⟨ok_move F_move_edges T G_beginning_of_stretch, ⟨a_move_edges, i_move_edges, k_move_edges⟩, B_move_edges⟩
  have Q_forget_larger : Mth P w K mg base C "forget_larger" 1 ["self"] (spForget C CB) f_forget_larger _ := ⟨ok_forget F_forget_larger T, ⟨a_forget_larger, i_forget_larger, k_forget_larger⟩, B_forget_larger⟩
  have Q_age : Mth P w K mg base C "age" 5 ["self", "now"] (spAge C CB) f_age _ := ⟨ok_age F_age T Q_move_edges Q_forget_larger G_put_into_stretches, ⟨a_age, i_age, k_age⟩, B_age⟩
  have Q_kept : Mth P w K mg base C "kept" 1 ["self"] (spKept C CB) f_kept _ := ⟨ok_kept F_kept T, ⟨a_kept, i_kept, k_kept⟩, B_kept⟩
  have Q_refused_stretch : Mth P w K mg base C "refused_stretch" 1 ["self", "a", "c"] (spRefused C) f_refused_stretch _ := ⟨ok_refused F_refused_stretch T, ⟨a_refused_stretch, i_refused_stretch, k_refused_stretch⟩, B_refused_stretch⟩
  have Q_how_many : Mth P w K mg base C "how_many" 5 ["self", "a", "c"] (spHow C CB) f_how_many _ := ⟨ok_how F_how_many T Q_refused_stretch Q_kept G_number_bounds G_added_up, ⟨a_how_many, i_how_many, k_how_many⟩, B_how_many⟩
  have Q_what_they_come_to : Mth P w K mg base C "what_they_come_to" 5 ["self", "a", "c"] (spCome C CB) f_what_they_come_to _ := ⟨ok_come F_what_they_come_to T Q_refused_stretch Q_kept G_sum_bounds G_added_up, ⟨a_what_they_come_to, i_what_they_come_to, k_what_they_come_to⟩, B_what_they_come_to⟩
  have Q_greatest_there : Mth P w K mg base C "greatest_there" 5 ["self", "a", "c"] (spTop C CB) f_greatest_there _ := ⟨ok_top F_greatest_there T Q_refused_stretch Q_kept G_may_lie_within, ⟨a_greatest_there, i_greatest_there, k_greatest_there⟩, B_greatest_there⟩
  have Q_edges : Mth P w K mg base C "edges" 1 ["self"] (spEdges C CB) f_edges _ := ⟨ok_edges F_edges T, ⟨a_edges, i_edges, k_edges⟩, B_edges⟩
  have Q_buckets_in_order : Mth P w K mg base C "buckets_in_order" 2 ["self", "i"] (spOrder C CB) f_buckets_in_order _ := ⟨ok_order F_buckets_in_order T G_numbers_of, ⟨a_buckets_in_order, i_buckets_in_order, k_buckets_in_order⟩, B_buckets_in_order⟩
  have G_answer : Def P w K mg base "answer" 6 ["house", "number", "given"] (spAnswer K C CB) f_answer _ := ⟨ok_answer F_answer T Q_begin Q_sample Q_age Q_how_many Q_what_they_come_to Q_greatest_there Q_edges Q_buckets_in_order, PySem.W.mg_of X G a_answer, k_answer, B_answer⟩
  exact ok_answers F_answers T M_House G_answer
end Ck
open PySem PySem.W PyProof.Rows
set_option maxRecDepth 100000 in
set_option maxHeartbeats 8000000 in
theorem PySem.Challenge.cw_coarsekept_s01_answers_holds : PySem.Challenge.rw_coarsekept_s01_answers.Holds := by
  w_on; k_headS; (case hw => exact ⟨[.list [.int 7]], by decide +kernel, by decide +kernel⟩)
  k_fillS
  refine L2.walk_specK (r := PySem.Challenge.rw_coarsekept_s01_answers) (k := 7) (CX := L2.CX0) (ps := ["calls"]) (sp := fun K => Ck.spAnswers K) (by decide +kernel) rfl rfl ⟨rfl, by decide, by decide⟩ (fun w h Y => PySem.W.kIn_of Y) ?F ?S (fun _ _ _ _ z => z)
  case F =>
    intro w mg fa h Y KX G hmg
    refine' Ck.all_mk KX G hmg ?aCB ?pgCB ?hdCB ?poCB ?saCB ?mkCB ?kcCB ?n_N ?n_F ?n_L ?n_T ?n_E ?n_G ?aC ?pgC ?hdC ?poC ?saC ?mkC ?kcC ?n_hw ?n_hv ?n_h0 ?n_h1 ?n_h2 ?n_x0 ?n_x1 ?n_x2 ?n_hs ?n_hb ?n_hl ?a_times_within ?l_times_within ?c_times_within ?k_times_within ?a_known_within ?l_known_within ?c_known_within ?k_known_within ?a_number_bounds ?l_number_bounds ?c_number_bounds ?k_number_bounds ?a_least_sum ?l_least_sum ?c_least_sum ?k_least_sum ?a_greatest_sum ?l_greatest_sum ?c_greatest_sum ?k_greatest_sum ?a_sum_bounds ?l_sum_bounds ?c_sum_bounds ?k_sum_bounds ?a_may_lie_within ?l_may_lie_within ?c_may_lie_within ?k_may_lie_within ?a_added_up ?l_added_up ?c_added_up ?k_added_up ?a_Bucket___init__ ?i_Bucket___init__ ?l_Bucket___init__ ?c_Bucket___init__ ?k_Bucket___init__ ?a_bucket_of_one ?l_bucket_of_one ?c_bucket_of_one ?k_bucket_of_one ?a_joined ?l_joined ?c_joined ?k_joined ?a_numbers_of ?l_numbers_of ?c_numbers_of ?k_numbers_of ?a_beginning_of_stretch ?l_beginning_of_stretch ?c_beginning_of_stretch ?k_beginning_of_stretch ?a_put_into_stretches ?l_put_into_stretches ?c_put_into_stretches ?k_put_into_stretches ?a_widths_fit ?l_widths_fit ?c_widths_fit ?k_widths_fit ?a_times_fit ?l_times_fit ?c_times_fit ?k_times_fit ?a_set_up ?i_set_up ?l_set_up ?c_set_up ?k_set_up ?a_House___init__ ?i_House___init__ ?l_House___init__ ?c_House___init__ ?k_House___init__ ?a_begin ?i_begin ?l_begin ?c_begin ?k_begin ?a_sample ?i_sample ?l_sample ?c_sample ?k_sample ?a_move_edges ?i_move_edges ?l_move_edges ?c_move_edges ?k_move_edges ?a_forget_larger ?i_forget_larger ?l_forget_larger ?c_forget_larger ?k_forget_larger ?a_age ?i_age ?l_age ?c_age ?k_age ?a_kept ?i_kept ?l_kept ?c_kept ?k_kept ?a_refused_stretch ?i_refused_stretch ?l_refused_stretch ?c_refused_stretch ?k_refused_stretch ?a_how_many ?i_how_many ?l_how_many ?c_how_many ?k_how_many ?a_what_they_come_to ?i_what_they_come_to ?l_what_they_come_to ?c_what_they_come_to ?k_what_they_come_to ?a_greatest_there ?i_greatest_there ?l_greatest_there ?c_greatest_there ?k_greatest_there ?a_edges ?i_edges ?l_edges ?c_edges ?k_edges ?a_buckets_in_order ?i_buckets_in_order ?l_buckets_in_order ?c_buckets_in_order ?k_buckets_in_order ?a_answer ?l_answer ?c_answer ?k_answer ?a_answers ?l_answers ?c_answers ?k_answers ?b_max ?b_min ?b_len ?b_list ?b_sum ?b_sorted ?q_LIMIT ?q_LATEST_NOW ?q_MOST_SAMPLES ?q_GIVEN ?w_GIVEN ?ne_C_CB
    (case aCB => k_is)
    (case pgCB => k_is)
    (case hdCB => k_is)
    (case poCB => k_is)
    (case saCB => k_is)
    (case mkCB => k_is)
    (case kcCB => k_is)
    (case n_N => k_is)
    (case n_F => k_is)
    (case n_L => k_is)
    (case n_T => k_is)
    (case n_E => k_is)
    (case n_G => k_is)
    (case aC => k_is)
    (case pgC => k_is)
    (case hdC => k_is)
    (case poC => k_is)
    (case saC => k_is)
    (case mkC => k_is)
    (case kcC => k_is)
    (case n_hw => k_is)
    (case n_hv => k_is)
    (case n_h0 => k_is)
    (case n_h1 => k_is)
    (case n_h2 => k_is)
    (case n_x0 => k_is)
    (case n_x1 => k_is)
    (case n_x2 => k_is)
    (case n_hs => k_is)
    (case n_hb => k_is)
    (case n_hl => k_is)
    (case a_times_within => k_is)
    (case l_times_within => k_is)
    (case c_times_within => k_is)
    (case k_times_within => k_is)
    (case a_known_within => k_is)
    (case l_known_within => k_is)
    (case c_known_within => k_is)
    (case k_known_within => k_is)
    (case a_number_bounds => k_is)
    (case l_number_bounds => k_is)
    (case c_number_bounds => k_is)
    (case k_number_bounds => k_is)
    (case a_least_sum => k_is)
    (case l_least_sum => k_is)
    (case c_least_sum => k_is)
    (case k_least_sum => k_is)
    (case a_greatest_sum => k_is)
    (case l_greatest_sum => k_is)
    (case c_greatest_sum => k_is)
    (case k_greatest_sum => k_is)
    (case a_sum_bounds => k_is)
    (case l_sum_bounds => k_is)
    (case c_sum_bounds => k_is)
    (case k_sum_bounds => k_is)
    (case a_may_lie_within => k_is)
    (case l_may_lie_within => k_is)
    (case c_may_lie_within => k_is)
    (case k_may_lie_within => k_is)
    (case a_added_up => k_is)
    (case l_added_up => k_is)
    (case c_added_up => k_is)
    (case k_added_up => k_is)
    (case a_Bucket___init__ => k_is)
    (case i_Bucket___init__ => k_is)
    (case l_Bucket___init__ => k_is)
    (case c_Bucket___init__ => k_is)
    (case k_Bucket___init__ => k_is)
    (case a_bucket_of_one => k_is)
    (case l_bucket_of_one => k_is)
    (case c_bucket_of_one => k_is)
    (case k_bucket_of_one => k_is)
    (case a_joined => k_is)
    (case l_joined => k_is)
    (case c_joined => k_is)
    (case k_joined => k_is)
    (case a_numbers_of => k_is)
    (case l_numbers_of => k_is)
    (case c_numbers_of => k_is)
    (case k_numbers_of => k_is)
    (case a_beginning_of_stretch => k_is)
    (case l_beginning_of_stretch => k_is)
    (case c_beginning_of_stretch => k_is)
    (case k_beginning_of_stretch => k_is)
    (case a_put_into_stretches => k_is)
    (case l_put_into_stretches => k_is)
    (case c_put_into_stretches => k_is)
    (case k_put_into_stretches => k_is)
    (case a_widths_fit => k_is)
    (case l_widths_fit => k_is)
    (case c_widths_fit => k_is)
    (case k_widths_fit => k_is)
    (case a_times_fit => k_is)
    (case l_times_fit => k_is)
    (case c_times_fit => k_is)
    (case k_times_fit => k_is)
    (case a_set_up => k_is)
    (case i_set_up => k_is)
    (case l_set_up => k_is)
    (case c_set_up => k_is)
    (case k_set_up => k_is)
    (case a_House___init__ => k_is)
    (case i_House___init__ => k_is)
    (case l_House___init__ => k_is)
    (case c_House___init__ => k_is)
    (case k_House___init__ => k_is)
    (case a_begin => k_is)
    (case i_begin => k_is)
    (case l_begin => k_is)
    (case c_begin => k_is)
    (case k_begin => k_is)
    (case a_sample => k_is)
    (case i_sample => k_is)
    (case l_sample => k_is)
    (case c_sample => k_is)
    (case k_sample => k_is)
    (case a_move_edges => k_is)
    (case i_move_edges => k_is)
    (case l_move_edges => k_is)
    (case c_move_edges => k_is)
    (case k_move_edges => k_is)
    (case a_forget_larger => k_is)
    (case i_forget_larger => k_is)
    (case l_forget_larger => k_is)
    (case c_forget_larger => k_is)
    (case k_forget_larger => k_is)
    (case a_age => k_is)
    (case i_age => k_is)
    (case l_age => k_is)
    (case c_age => k_is)
    (case k_age => k_is)
    (case a_kept => k_is)
    (case i_kept => k_is)
    (case l_kept => k_is)
    (case c_kept => k_is)
    (case k_kept => k_is)
    (case a_refused_stretch => k_is)
    (case i_refused_stretch => k_is)
    (case l_refused_stretch => k_is)
    (case c_refused_stretch => k_is)
    (case k_refused_stretch => k_is)
    (case a_how_many => k_is)
    (case i_how_many => k_is)
    (case l_how_many => k_is)
    (case c_how_many => k_is)
    (case k_how_many => k_is)
    (case a_what_they_come_to => k_is)
    (case i_what_they_come_to => k_is)
    (case l_what_they_come_to => k_is)
    (case c_what_they_come_to => k_is)
    (case k_what_they_come_to => k_is)
    (case a_greatest_there => k_is)
    (case i_greatest_there => k_is)
    (case l_greatest_there => k_is)
    (case c_greatest_there => k_is)
    (case k_greatest_there => k_is)
    (case a_edges => k_is)
    (case i_edges => k_is)
    (case l_edges => k_is)
    (case c_edges => k_is)
    (case k_edges => k_is)
    (case a_buckets_in_order => k_is)
    (case i_buckets_in_order => k_is)
    (case l_buckets_in_order => k_is)
    (case c_buckets_in_order => k_is)
    (case k_buckets_in_order => k_is)
    (case a_answer => k_is)
    (case l_answer => k_is)
    (case c_answer => k_is)
    (case k_answer => k_is)
    (case a_answers => k_is)
    (case l_answers => k_is)
    (case c_answers => k_is)
    (case k_answers => k_is)
    (case b_max => k_is)
    (case b_min => k_is)
    (case b_len => k_is)
    (case b_list => k_is)
    (case b_sum => k_is)
    (case b_sorted => k_is)
    (case q_LIMIT => k_is)
    (case q_LATEST_NOW => k_is)
    (case q_MOST_SAMPLES => k_is)
    (case q_GIVEN => k_is)
    (case w_GIVEN => k_is)
    (case ne_C_CB => decide)
  case S =>
    intro K H xs a hO hwi hask hx
    cases hx with
    | cons h1 h2 =>
      cases h2
      cases h1 with
      | lst hs ha =>
        have e := L2.ints_dw a.1 _ ha
        subst e
        have q : ((Codec.inLen 0 1200 a.1 && a.1.all (Codec.inInt 0 18446744073709551615)) && true) = true := hwi
        rw [Bool.and_eq_true, Bool.and_eq_true] at q
        refine ⟨_, a.1, rfl, hs, (Codec.inNat_iff.mp q.1.1).2, fun x hx => ?_, hask, fun H' p hp => .lst (L2.SqL.of hp) (L2.dw_ints _)⟩
        have z := List.all_eq_true.mp q.1.2 x hx
        exact (Codec.inInt_iff.mp z).1
