import PyProof.Rows.All
import Wide.All
import OpenK.AllK
import Wide.FinOn
import Open.SpecLaws
import KE.OsGo
import PyFlatLaws
import HandS.ForSpec
import HandS.Comp
import HandS.Conv
import HandS.SortInts
import HandS.Evl
import KE.OsHead
import PySem.Challenge.RW_brokenborder_s01_answers
set_option Elab.async false
set_option linter.all false
set_option maxRecDepth 100000
set_option maxHeartbeats 8000000
namespace BB
open PySem PySem.Spec PyProof.Rows L2 Evl
/-- the i-th statement of the linked text -/
def topS (i : Nat) : Stmt := PySem.Challenge.pw_brokenborder_s01_answers.main.body.getD i (.Pass ⟨0, 0, 0, 0⟩)

/-- the scope of the comprehension that a def of one row gives back -/
def compSc (s : Stmt) : Scope := match defBody s with
  | [.Return (some (.ListComp _ _ sc _)) _] => sc
  | _ => { kind := .function, names := [], isGenerator := false, isCoroutine := false }

/-! ### a def that stands at the top under its name; one that keeps its promise -/
structure Top (K : PySem.W.Frag) (mg : Str → Option Value) (x : Str) (st : Stmt) (ps : List Str) : Prop where
  ex : ∃ (f : Addr) (fd : FuncData), mg x = some (.ref f) ∧ Fun K x x st f fd ∧ Binds K fd ps []
structure Def (P : Program) (w : World) (K : PySem.W.Frag) (mg : Str → Option Value) (base : Heap) (x : Str) (k : Nat) (ps : List Str) (sp : Sp) : Prop where
  ex : ∃ (f : Addr) (fd : FuncData), FnOk P w K mg base CX0 k f fd ps sp ∧ mg x = some (.ref f) ∧ PySem.W.keepIn K (.ref f) = true ∧ Binds K fd ps [] ∧ ∃ (oc : Value) (od : Option Addr) (osl : Array (Option Value)), K.lookup f = some ⟨oc, od, .func fd, osl⟩
theorem Def.of {P : Program} {w : World} {K : PySem.W.Frag} {mg : Str → Option Value} {base : Heap} {x : Str} {st : Stmt} {N ps : List Str} {k : Nat} {sp : Sp} (F : Top K mg x st ps) (S : FnScope N ps (defScope st)) (len : ∀ vs H Q E, sp vs H Q E → vs.length = ps.length)
    (hbody : ∀ (f : Addr) (cdv : Value) (A : Around) (outer : List Env) (s : Shared) (H : Hp) (vs : List V) (Q : VK) (E : XK), Room k (A.deeper (envOfC x (defScope st) s.heap.objs.size f cdv)) → sp vs H Q E →
      ∃ t, PSs (cxOf CX0 P w K mg base N x (defScope st) f cdv A outer s H E).nox (defBody st) t ∧ t { nx := fun _ H' => Q .non H', rt := Q } (start N vs) H) : Def P w K mg base x (k + 1) ps sp := by
  obtain ⟨f, fd, hm, F, hb⟩ := F.ex
  obtain ⟨oc, od, _, _, _, _, _, _, osl, _, lk, _⟩ := F.ex
  exact ⟨f, fd, F.ok S len (fun cdv A outer s H vs Q E hr h => hbody f cdv A outer s H vs Q E hr h), hm, F.kp, hb, oc, od, osl, lk⟩
theorem pe_callD {X : Cx} {x : Str} {k : Nat} {ps : List Str} {sp : Sp} {e : Expr} {es : List Expr} {t : TA} {p pos : Pos} (D : Def X.prog X.w X.K X.mg X.base x k ps sp) (hr : Room k X.A) (hg : Gl X x) (ha : PA X (e :: es) t)
    (hdb : (x == ("__debug__" : Str)) = false := by decide) (he : starEach (e :: es) X.env = (false, eval e X.env) :: starEach es X.env := by rfl) (hpl : (backTo pos (starEach es X.env)).any (·.1) = false := by rfl) : PE X (.Call (.Name x p) (e :: es) [] pos) (tCall sp [] E0 t) := by
  obtain ⟨f, fd, F, hm, hk, hb, _⟩ := D.ex
  exact pe_call F hr hg hm hk hb .nil pass0 ha hdb he hpl
/-- xs[i], for xs[i] += e -/
theorem get_list {X : Cx} : PGet X (rIxL X.K) := by
  intro pins s σ H o i ov iv Q I rx ry h
  obtain ⟨p, xs, i, z, rfl, rfl, hq, he, q⟩ := h
  cases rx
  obtain ⟨t, rfl⟩ := ry
  obtain ⟨its, r, pl, hz⟩ := I.list hq
  obtain ⟨j, h1, h2, h3, h4, h5⟩ := atI_get he
  obtain ⟨w, ew, rw'⟩ := r.get h2
  have hl := r.length
  have hn := line63
  have fin : EP X pins σ Q w s := ⟨z, H, I, rw', q⟩
  by_cases h0 : 0 ≤ i
  · have hj : i.toNat = j := by
      rw [seqIndex_of h0 h5] at h1
      exact Option.some.inj h1
    exact wpAny_getItem_list pl.isList h0 (by omega) (by rw [hj]; simpa using ew) fin
  · have hj : (i + (its.toArray.size : Int)).toNat = j := by
      rw [seqIndex_neg (by omega) h4] at h1
      rw [List.size_toArray, ← hl]
      exact Option.some.inj h1
    exact wpAny_getItem_list_neg pl.isList (by omega) (by rw [List.size_toArray] <;> omega) (by omega) (by rw [hj]; simpa using ew) fin
/-! ### data in the heap -/
def iV (l : List Int) : List V := l.map V.int
def nI (l : List Nat) : List Int := l.map fun (n : Nat) => (n : Int)
abbrev Pc := Sr115.Piece
def pV (p : Pc) : List V := [.int (p.left : Int), .int (p.right : Int)]
def tupO (p : Pc) : HO := .tup (pV p)
def lstO (l : List Int) : HO := .lst (iV l)
def refs {α : Type} (zs : List (Addr × α)) : List V := zs.map fun z => V.ref z.1
/-- at a a list of objects, each told by what it holds -/
def Objs {α : Type} (o : α → HO) (H : Hp) (a : Addr) (l : List α) : Prop := ∃ zs : List (Addr × α), H a = some (.lst (refs zs)) ∧ zs.map (·.2) = l ∧ ∀ z ∈ zs, H z.1 = some (o z.2)
abbrev Fl := Objs tupO
abbrev Rows := Objs lstO
theorem Objs.mono {α : Type} {o : α → HO} {H H' : Hp} {a : Addr} {l : List α} (e : Ex H H') (h : Objs o H a l) : Objs o H' a l := by
  obtain ⟨zs, h1, h2, h3⟩ := h
  exact ⟨zs, e _ _ h1, h2, fun z hz => e _ _ (h3 z hz)⟩
/-- what a list's item holds is no list of addresses -/
def Sep {α : Type} (o : α → HO) : Prop := ∀ (x : α) (zs : List (Addr × α)), zs ≠ [] → o x ≠ .lst (refs zs)
theorem sep_tup : Sep tupO := fun x zs _ h => by cases h
theorem sep_lst : Sep lstO := fun x zs hz h => by
  cases zs with
  | nil => exact hz rfl
  | cons z r =>
    have h' : iV x = V.ref z.1 :: refs r := HO.lst.inj h
    cases x with
    | nil => cases h'
    | cons y s => cases (List.cons.inj h').1
theorem Objs.ne {α : Type} {o : α → HO} (hs : Sep o) {H : Hp} {a : Addr} {zs : List (Addr × α)} (h1 : H a = some (.lst (refs zs))) (h3 : ∀ z ∈ zs, H z.1 = some (o z.2)) : ∀ z ∈ zs, z.1 ≠ a := fun z hz e => by
  have q := h3 z hz
  rw [e, h1] at q
  exact hs z.2 zs (fun n => by rw [n] at hz; cases hz) (Option.some.inj q).symm
/-- the list at a alone has changed -/
theorem Objs.app {α : Type} {o : α → HO} (hs : Sep o) {H H' : Hp} {a q : Addr} {zs : List (Addr × α)} {x : α} (h1 : H a = some (.lst (refs zs))) (h3 : ∀ z ∈ zs, H z.1 = some (o z.2)) (e : Ex H H') (hq : H' q = some (o x)) (hqa : q ≠ a) :
    Objs o (upd H' a (.lst (refs zs ++ [.ref q]))) a (zs.map (·.2) ++ [x]) := by
  refine ⟨zs ++ [(q, x)], ?_, ?_, fun z hz => ?_⟩
  · rw [upd_same]
    unfold refs
    rw [List.map_append]
    rfl
  · rw [List.map_append]
    rfl
  · rcases List.mem_append.mp hz with hz | hz
    · rw [upd_ne (Objs.ne hs h1 h3 z hz)]
      exact e _ _ (h3 z hz)
    · rw [List.mem_singleton] at hz
      subst hz
      rw [upd_ne hqa]
      exact hq
theorem Objs.nil {α : Type} {o : α → HO} {H : Hp} {a : Addr} (h : H a = some (.lst [])) : Objs o H a [] := ⟨[], h, rfl, fun _ hz => by cases hz⟩
def Fok (f : Sr115.Floor) : Prop := f.length ≤ 7 ∧ ∀ p ∈ f, p.left < 6 ∧ p.right < 6

/-! ### promises by shapes -/
section
variable {α β : Type} {K : PySem.W.Frag}
def RetB (o : β → HO) (l : List β) (H : Hp) (Q : VK) : Prop := ∀ p H2, H p = none → Ex H H2 → Objs o H2 p l → Q (.ref p) H2
def Mono (pre : α → Hp → Prop) : Prop := ∀ x H H', Ex H H' → pre x H → pre x H'
def SV (args : α → List V) (pre : α → Hp → Prop) (out : α → V) : Sp := fun vs H Q _ => ∃ x, vs = args x ∧ pre x H ∧ RetV (out x) H Q
def SL (args : α → List V) (pre : α → Hp → Prop) (out : α → List V) : Sp := fun vs H Q _ => ∃ x, vs = args x ∧ pre x H ∧ RetL (out x) H Q
def SB (args : α → List V) (pre : α → Hp → Prop) (o : β → HO) (out : α → List β) : Sp := fun vs H Q _ => ∃ x, vs = args x ∧ pre x H ∧ RetB o (out x) H Q
/-- a new list of objects -/
def EvB (o : β → HO) (te : TE) (σ : L2.St) (H : Hp) (l : List β) : Prop := ∀ H1, Ex H H1 → ∀ Q : VK, (∀ p H2, H1 p = none → Ex H1 H2 → Objs o H2 p l → Q (.ref p) H2) → te σ H1 Q
variable {args : α → List V} {pre : α → Hp → Prop} {σ : L2.St} {H : Hp} {ta : TA} {E : XK}
theorem ev_SV {out : α → V} (m : Mono pre) (x : α) (ha : EvA ta σ H (args x)) (h : pre x H) : Ev (tCall (SV args pre out) [] E ta) σ H (out x) :=
  ev_call ha (by
    rw [List.append_nil]
    exact fun H1 e Q q E => ⟨x, rfl, m _ _ _ e h, fun H2 e2 => q H2 e2⟩)
theorem el_SL {out : α → List V} (m : Mono pre) (x : α) (ha : EvA ta σ H (args x)) (h : pre x H) : EvL (tCall (SL args pre out) [] E ta) σ H (out x) :=
  el_call ha (by
    rw [List.append_nil]
    exact fun H1 e Q q E => ⟨x, rfl, m _ _ _ e h, fun p H2 hp e2 h2 => q p H2 hp e2 h2⟩)
theorem eb_SB {o : β → HO} {out : α → List β} (m : Mono pre) (x : α) (ha : EvA ta σ H (args x)) (h : pre x H) : EvB o (tCall (SB args pre o out) [] E ta) σ H (out x) := fun H1 e Q q =>
  ha H1 e _ fun H2 e2 => by
    show SB args pre o out (args x ++ []) H2 Q E
    rw [List.append_nil]
    exact ⟨x, rfl, m _ _ _ (e.trans e2) h, fun p H3 hp e3 h3 => q p H3 (fresh_back e2 hp) (e2.trans e3) h3⟩
/-- arguments with a new list first, whatever is asked of them -/
theorem s_retB {o : β → HO} {te : TE} {D : Ends} {l : List β} (h : EvB o te σ H l) (k : ∀ p H1, H p = none → Ex H H1 → Objs o H1 p l → D.rt (.ref p) H1) : tRet te D σ H := h H (Ex.refl H) _ k
theorem q_asgB {o : β → HO} {te : TE} {D : Ends} {l : List β} {i : Nat} {tz : TS} (h : EvB o te σ H l) (k : ∀ p H1, H p = none → Ex H H1 → Objs o H1 p l → tz D (σ.set i (some (.ref p))) H1) : tSeq (tAsg te (gName i)) tz D σ H := h H (Ex.refl H) _ k
theorem s_asgB {o : β → HO} {te : TE} {D : Ends} {l : List β} {i : Nat} (h : EvB o te σ H l) (k : ∀ p H1, H p = none → Ex H H1 → Objs o H1 p l → D.nx (σ.set i (some (.ref p))) H1) : tAsg te (gName i) D σ H := h H (Ex.refl H) _ k
theorem RetB.go {o : β → HO} {l : List β} {Q : VK} {H' : Hp} (k : RetB o l H Q) (e : Ex H H') {p : Addr} {H2 : Hp} (hp : H' p = none) (e2 : Ex H' H2) (h : Objs o H2 p l) : Q (.ref p) H2 := k p H2 (fresh_back e hp) (e.trans e2) h
/-- some list: an old one or a new one -/
def EvS (te : TE) (σ : L2.St) (H : Hp) (xs : List V) : Prop := ∀ H1, Ex H H1 → ∀ Q : VK, (∀ p H2, Ex H1 H2 → H2 p = some (.lst xs) → Q (.ref p) H2) → te σ H1 Q
theorem es_L {te : TE} {xs : List V} (h : EvL te σ H xs) : EvS te σ H xs := fun H1 e Q q => h H1 e Q fun p H2 _ e2 h2 => q p H2 e2 h2
theorem es_ref {te : TE} {xs : List V} {p : Addr} (h : Ev te σ H (.ref p)) (hp : H p = some (.lst xs)) : EvS te σ H xs := fun H1 e Q q => h H1 e Q fun H2 e2 => q p H2 e2 (e2 _ _ (e _ _ hp))
theorem el_cat {ta tb : TE} {xs ys : List V} (ha : EvS ta σ H xs) (hb : EvS tb σ H ys) (hl : xs.length + ys.length ≤ 10000000) : EvL (tOp rCat ta tb) σ H (xs ++ ys) := fun H1 e Q q =>
  ha H1 e _ fun p H2 e2 hp => hb H2 (e.trans e2) _ fun r H3 e3 hr => ⟨p, r, xs, ys, rfl, rfl, e3 _ _ hp, hr, Nat.le_trans hl (by decide), fun d hd => q d _ (fresh_back (e2.trans e3) hd) ((e2.trans e3).trans (Ex.new hd)) upd_same⟩
theorem el_rep {ta tb : TE} {xs : List V} {k : Int} (ha : EvS ta σ H xs) (hb : Ev tb σ H (.int k)) (hk : 0 ≤ k ∧ k ≤ 1000) (hl : xs.length ≤ 1000) : EvL (tOp rRep ta tb) σ H (List.replicate k.toNat xs).flatten := fun H1 e Q q =>
  ha H1 e _ fun p H2 e2 hp => hb H2 (e.trans e2) _ fun H3 e3 => ⟨p, k, xs, rfl, rfl, e3 _ _ hp, by omega, by omega, by
    have h1 : xs.length * k.toNat ≤ 1000 * 1000 := Nat.mul_le_mul hl (by omega)
    exact Nat.le_trans h1 (by decide), fun d hd => q d _ (fresh_back (e2.trans e3) hd) ((e2.trans e3).trans (Ex.new hd)) upd_same⟩
/-- len of a list that a part gives -/
theorem ev_lenS {te : TE} {xs : List V} (ha : EvS te σ H xs) : Ev (tCB (rLenS K) (tCons te tNil)) σ H (.int (xs.length : Int)) := fun H1 e Q q =>
  ha H1 e _ fun p H2 e2 h2 => ⟨p, xs, rfl, Or.inl (sq_of h2), q H2 e2⟩
theorem ev_lenB {o : β → HO} {te : TE} {l : List β} (ha : EvB o te σ H l) : Ev (tCB (rLenS K) (tCons te tNil)) σ H (.int (l.length : Int)) := fun H1 e Q q =>
  ha H1 e _ fun p H2 _ e2 h2 => by
    obtain ⟨zs, g1, g2, g3⟩ := h2
    have e3 : (refs zs).length = l.length := by
      rw [← g2]
      unfold refs
      rw [List.length_map, List.length_map]
    have q2 := q H2 e2
    rw [← e3] at q2
    exact ⟨p, _, rfl, Or.inl (sq_of g1), q2⟩
theorem ev_lenO {o : β → HO} {te : TE} {l : List β} {a : Addr} (ha : Ev te σ H (.ref a)) (h : Objs o H a l) : Ev (tCB (rLenS K) (tCons te tNil)) σ H (.int (l.length : Int)) := by
  obtain ⟨zs, g1, g2, g3⟩ := h
  have e3 : (refs zs).length = l.length := by
    rw [← g2]
    unfold refs
    rw [List.length_map, List.length_map]
  rw [← e3]
  exact ev_len ha (sq_of g1)
theorem el_listRg {tb : TE} {n : Int} (h : Ev tb σ H (.int n)) (hn : 0 ≤ n ∧ n ≤ 10000) : EvL (tLstRg (tRg1 tb)) σ H (rgV 0 n) := fun H1 e Q q =>
  h H1 e _ fun H2 e2 => ⟨n, rfl, RgOk.of_le (by omega) (by omega) (by omega) (by omega), fun d hd => q d _ (fresh_back e2 hd) (e2.trans (Ex.new hd)) upd_same⟩
end
/-! ### comprehensions over lists of data -/
section
variable {α : Type} {K : PySem.W.Frag} {σ : L2.St} {H : Hp} {te : TE} {t : TT}
def atB (l : List α) (b : α → Bool) (i : Nat) : Bool := match l[i]? with
  | some x => b x
  | none => false
def atV (l : List α) (v : α → V) (i : Nat) : V := match l[i]? with
  | some x => v x
  | none => .non
theorem given_take (l : List α) (b : α → Bool) (v : α → V) : ∀ n, n ≤ l.length → given n (atB l b) (atV l v) = ((l.take n).filter b).map v
  | 0, _ => rfl
  | n + 1, hn => by
    have ih := given_take l b v n (by omega)
    have hx : l[n]? = some (l[n]'(by omega)) := List.getElem?_eq_getElem (by omega)
    have e1 : atB l b n = b (l[n]'(by omega)) := by unfold atB; rw [hx]
    have e2 : atV l v n = v (l[n]'(by omega)) := by unfold atV; rw [hx]
    rw [List.take_add_one, hx]
    show _ = ((l.take n ++ [l[n]'(by omega)]).filter b).map v
    rw [List.filter_append, List.map_append, ← ih]
    cases hb : b (l[n]'(by omega)) with
    | true =>
      rw [given_yes (e1.trans hb), e2, List.filter_cons_of_pos hb]
      rfl
    | false =>
      rw [given_no (e1.trans hb), List.filter_cons_of_neg (by rw [hb]; decide)]
      exact (List.append_nil _).symm
theorem given_all (l : List α) (b : α → Bool) (v : α → V) : given l.length (atB l b) (atV l v) = (l.filter b).map v := by
  rw [given_take l b v l.length (Nat.le_refl _), List.take_length]
theorem el_lcA {a : Addr} {tl : TE} {j : Nat} {vs : List Nat} (l : List α) (g : α → V) (b : α → Bool) (v : α → V) (h : Ev tl σ H (.ref a)) (hx : SqL K H a (l.map g)) (hz : l.length ≤ 40000) (hw : ∀ x, wipe ((wipe σ vs).set j (some x)) vs = wipe σ vs)
    (ht : ∀ (x : α) H1, Ex H H1 → x ∈ l → EvT t ((wipe σ vs).set j (some (g x))) H1 (b x)) (he : ∀ (x : α) H1, Ex H H1 → x ∈ l → b x = true → Ev te ((wipe σ vs).set j (some (g x))) H1 (v x)) :
    EvL (tLc (iList K tl) (gName j) t te vs) σ H ((l.filter b).map v) := by
  have hh := el_lcL (t := t) (te := te) (j := j) (vs := vs) (atB l b) (atV l v) h hx (by rw [List.length_map]; exact hz) hw (fun i x H1 e hi => by
    rw [List.getElem?_map] at hi
    cases hq : l[i]? with
    | none => rw [hq] at hi; cases hi
    | some y =>
      rw [hq] at hi
      have e2 : g y = x := Option.some.inj hi
      subst e2
      have e3 : atB l b i = b y := by unfold atB; rw [hq]
      rw [e3]
      exact ht y H1 e (List.mem_of_getElem? hq)) (fun i x H1 e hi hb => by
    rw [List.getElem?_map] at hi
    cases hq : l[i]? with
    | none => rw [hq] at hi; cases hi
    | some y =>
      rw [hq] at hi
      have e2 : g y = x := Option.some.inj hi
      subst e2
      have e3 : atB l b i = b y := by unfold atB; rw [hq]
      have e4 : atV l v i = v y := by unfold atV; rw [hq]
      rw [e4]
      exact he y H1 e (List.mem_of_getElem? hq) (e3.symm.trans hb))
  rw [List.length_map, given_all] at hh
  exact hh
/-- over a new list -/
theorem el_lcN {tl : TE} {j : Nat} {vs : List Nat} (l : List α) (g : α → V) (b : α → Bool) (v : α → V) (h : EvL tl σ H (l.map g)) (hz : l.length ≤ 40000) (hw : ∀ x, wipe ((wipe σ vs).set j (some x)) vs = wipe σ vs)
    (ht : ∀ (x : α) H1, Ex H H1 → x ∈ l → EvT t ((wipe σ vs).set j (some (g x))) H1 (b x)) (he : ∀ (x : α) H1, Ex H H1 → x ∈ l → b x = true → Ev te ((wipe σ vs).set j (some (g x))) H1 (v x)) :
    EvL (tLc (iList K tl) (gName j) t te vs) σ H ((l.filter b).map v) := by
  have hh := el_lcNL (K := K) (t := t) (te := te) (j := j) (vs := vs) (atB l b) (atV l v) h (by rw [List.length_map]; exact hz) hw (fun i x H1 e hi => by
    rw [List.getElem?_map] at hi
    cases hq : l[i]? with
    | none => rw [hq] at hi; cases hi
    | some y =>
      rw [hq] at hi
      have e2 : g y = x := Option.some.inj hi
      subst e2
      have e3 : atB l b i = b y := by unfold atB; rw [hq]
      rw [e3]
      exact ht y H1 e (List.mem_of_getElem? hq)) (fun i x H1 e hi hb => by
    rw [List.getElem?_map] at hi
    cases hq : l[i]? with
    | none => rw [hq] at hi; cases hi
    | some y =>
      rw [hq] at hi
      have e2 : g y = x := Option.some.inj hi
      subst e2
      have e3 : atB l b i = b y := by unfold atB; rw [hq]
      have e4 : atV l v i = v y := by unfold atV; rw [hq]
      rw [e4]
      exact he y H1 e (List.mem_of_getElem? hq) (e3.symm.trans hb))
  rw [List.length_map, given_all] at hh
  exact hh
end
/-! ### what the top has of constants; the built-in names are their own -/
structure Txt (K : PySem.W.Frag) (mg : Str → Option Value) : Prop where
  len : mg "len" = none
  range : mg "range" = none
  all : mg "all" = none
  any : mg "any" = none
  sum : mg "sum" = none
  max : mg "max" = none
  min : mg "min" = none
  list : mg "list" = none
  sorted : mg "sorted" = none
  c_SEPARATOR : ∃ t, mg "SEPARATOR" = some (.int (-1) t)
  c_MARK_COUNT : ∃ t, mg "MARK_COUNT" = some (.int 6 t)
  c_MOST_PIECES : ∃ t, mg "MOST_PIECES" = some (.int 7 t)
  c_NOT_THERE : ∃ t, mg "NOT_THERE" = some (.int (-2) t)
  c_NOT_USED : ∃ t, mg "NOT_USED" = some (.int (-6) t)
  c_OUT_OF_RANGE : ∃ t, mg "OUT_OF_RANGE" = some (.int (-22) t)
  c_TOO_MANY_PIECES : ∃ t, mg "TOO_MANY_PIECES" = some (.int (-28) t)
  c_NO_INSTANCE : ∃ t, mg "NO_INSTANCE" = some (.int (-11) t)
  c_CREATE : ∃ t, mg "CREATE" = some (.int 0 t)
  c_LAST_CHANGE : ∃ t, mg "LAST_CHANGE" = some (.int 3 t)
  c_CHECK_CHAINS : ∃ t, mg "CHECK_CHAINS" = some (.int 13 t)

/-! ### pieces and rows read -/
section
variable {K : PySem.W.Frag} {σ : L2.St} {H : Hp} {ta tb : TE} {a : Addr} {f : Sr115.Floor} {i : Nat}
theorem Objs.get {α : Type} {o : α → HO} {l : List α} {x : α} (h : Objs o H a l) (hi : l[i]? = some x) : ∃ xs t, H a = some (.lst xs) ∧ xs.length = l.length ∧ xs[i]? = some (V.ref t) ∧ H t = some (o x) := by
  obtain ⟨zs, h1, h2, h3⟩ := h
  rw [← h2, List.getElem?_map] at hi
  cases hz : zs[i]? with
  | none => rw [hz] at hi; cases hi
  | some z =>
    rw [hz] at hi
    have e : z.2 = x := Option.some.inj hi
    subst e
    refine ⟨refs zs, z.1, h1, ?_, ?_, h3 z (List.mem_of_getElem? hz)⟩
    · rw [← h2]
      unfold refs
      rw [List.length_map, List.length_map]
    · unfold refs
      rw [List.getElem?_map, hz]
      rfl
theorem Objs.len {α : Type} {o : α → HO} {l : List α} (h : Objs o H a l) : ∃ xs, H a = some (.lst xs) ∧ xs.length = l.length := by
  obtain ⟨zs, h1, h2, h3⟩ := h
  refine ⟨refs zs, h1, ?_⟩
  rw [← h2]
  unfold refs
  rw [List.length_map, List.length_map]
theorem at_pieces (hi : i < f.length) : f[i]? = some (Sr115.pieceAt f i) := by
  unfold Sr115.pieceAt
  rw [List.getD_eq_getElem?_getD, List.getElem?_eq_getElem hi]
  rfl
theorem ev_left (ha : Ev ta σ H (.ref a)) (h : Fl H a f) (hb : Ev tb σ H (.int (i : Int))) (hi : i < f.length) : Ev (tOp (rIxT K) (tOp (rIxL K) ta tb) (tC (.int 0))) σ H (.int ((Sr115.pieceAt f i).left : Int)) := by
  obtain ⟨xs, t, h1, h2, h3, h4⟩ := h.get (at_pieces hi)
  exact ev_op (ev_op ha hb (rv_ixL (sq_of h1) (atI_nat h3))) ev_c (rv_ixT (st_of h4) (atI_nat (j := 0) rfl))
theorem ev_right (ha : Ev ta σ H (.ref a)) (h : Fl H a f) (hb : Ev tb σ H (.int (i : Int))) (hi : i < f.length) : Ev (tOp (rIxT K) (tOp (rIxL K) ta tb) (tC (.int 1))) σ H (.int ((Sr115.pieceAt f i).right : Int)) := by
  obtain ⟨xs, t, h1, h2, h3, h4⟩ := h.get (at_pieces hi)
  exact ev_op (ev_op ha hb (rv_ixL (sq_of h1) (atI_nat h3))) ev_c (rv_ixT (st_of h4) (atI_nat (j := 1) rfl))
theorem iV_len (l : List Int) : (iV l).length = l.length := List.length_map _
theorem nI_len (l : List Nat) : (nI l).length = l.length := List.length_map _
theorem iV_get {l : List Int} {x : Int} (h : l[i]? = some x) : (iV l)[i]? = some (.int x) := by
  unfold iV
  rw [List.getElem?_map, h]
  rfl
theorem nI_get {l : List Nat} {x : Nat} (h : l[i]? = some x) : (nI l)[i]? = some (x : Int) := by
  unfold nI
  rw [List.getElem?_map, h]
  rfl
theorem iV_flat (l : List Int) : (iV l).all flatV = true := by
  unfold iV
  rw [List.all_eq_true]
  intro x hx
  obtain ⟨y, _, rfl⟩ := List.mem_map.mp hx
  rfl
theorem at_last {l : List Nat} (h : l ≠ []) : atI (iV (nI l)) (-1) = some (.int ((l.getLastD 0 : Nat) : Int)) := by
  have e := List.dropLast_concat_getLast h
  have e2 : l.getLastD 0 = l.getLast h := by
    rw [List.getLastD_eq_getLast?, List.getLast?_eq_some_getLast h]
    rfl
  have e3 : iV (nI l) = iV (nI l.dropLast) ++ [V.int ((l.getLast h : Nat) : Int)] := by
    conv => lhs; rw [← e]
    unfold iV nI
    rw [List.map_append, List.map_append]
    rfl
  rw [e2, e3]
  exact atI_last _ _
theorem in_nI (i : Nat) (l : List Nat) : inV (.int (i : Int)) (iV (nI l)) = l.contains i := by
  unfold inV iV nI
  induction l with
  | nil => rfl
  | cons x r ih =>
    rw [List.map_cons, List.map_cons, List.any_cons, ih, List.contains_cons]
    have e : eqV (.int ((x : Nat) : Int)) (.int (i : Int)) = (i == x) := by
      show ((x : Int) == (i : Int)) = (i == x)
      rw [Bool.eq_iff_iff]
      simp
      omega
    rw [e]
theorem dec_nat (x y : Nat) : decide (V.int (x : Int) = V.int (y : Int)) = (x == y) := by
  rw [dec_int, Bool.eq_iff_iff, beq_iff_eq, beq_iff_eq]
  omega
theorem iV_nil : iV [] = [] := rfl
theorem iV_app (a b : List Int) : iV (a ++ b) = iV a ++ iV b := List.map_append
theorem nI_app (a b : List Nat) : nI (a ++ b) = nI a ++ nI b := List.map_append
end
/-! ### more readings -/
section
variable {α β : Type} {K : PySem.W.Frag} {σ : L2.St} {H : Hp} {te tl : TE} {t : TT}
/-- a comprehension over a new list of objects that keeps the objects -/
theorem eb_lcB {o : β → HO} {j : Nat} {vs : List Nat} (l : List β) (b : β → Bool) (h : EvB o tl σ H l) (hz : l.length ≤ 40000) (hw : ∀ x, wipe ((wipe σ vs).set j (some x)) vs = wipe σ vs)
    (ht : ∀ (q : Addr) (x : β) H1, Ex H H1 → x ∈ l → H1 q = some (o x) → EvT t ((wipe σ vs).set j (some (.ref q))) H1 (b x)) (he : ∀ (q : Addr) H1, Ev te ((wipe σ vs).set j (some (.ref q))) H1 (.ref q)) :
    EvB o (tLc (iList K tl) (gName j) t te vs) σ H (l.filter b) := fun H0 e0 Q k => h H0 e0 _ fun p H1 hp e1 hO => by
  obtain ⟨zs, g1, g2, g3⟩ := hO
  have hlen : zs.length = l.length := by rw [← g2, List.length_map]
  have hh := el_lcA (K := K) (σ := σ) (H := H1) (te := te) (t := t) (tl := tC (.ref p)) (a := p) (j := j) (vs := vs) zs (fun z => V.ref z.1) (fun z => b z.2) (fun z => V.ref z.1) ev_c (sq_of g1) (by rw [hlen]; exact hz) hw
    (fun z H2 e2 hzm => ht z.1 z.2 H2 ((e0.trans e1).trans e2) (by rw [← g2]; exact List.mem_map.mpr ⟨z, hzm, rfl⟩) (e2 _ _ (g3 z hzm))) (fun z H2 e2 hzm _ => he z.1 H2)
  refine hh H1 (Ex.refl H1) Q fun q H2 hq e2 h2 => k q H2 (fresh_back e1 hq) (e1.trans e2) ⟨zs.filter fun z => b z.2, h2, ?_, fun z hzm => e2 _ _ (g3 z (List.mem_filter.mp hzm).1)⟩
  rw [← g2, List.filter_map]
  rfl
/-- the same over an old one -/
theorem eb_lcO {o : β → HO} {j : Nat} {vs : List Nat} {a : Addr} (l : List β) (b : β → Bool) (h : Ev tl σ H (.ref a)) (hO : Objs o H a l) (hz : l.length ≤ 40000) (hw : ∀ x, wipe ((wipe σ vs).set j (some x)) vs = wipe σ vs)
    (ht : ∀ (q : Addr) (x : β) H1, Ex H H1 → x ∈ l → H1 q = some (o x) → EvT t ((wipe σ vs).set j (some (.ref q))) H1 (b x)) (he : ∀ (q : Addr) H1, Ev te ((wipe σ vs).set j (some (.ref q))) H1 (.ref q)) :
    EvB o (tLc (iList K tl) (gName j) t te vs) σ H (l.filter b) := fun H0 e0 Q k => by
  obtain ⟨zs, g1, g2, g3⟩ := hO
  have hlen : zs.length = l.length := by rw [← g2, List.length_map]
  have hh := el_lcA (K := K) (σ := σ) (H := H) (te := te) (t := t) (tl := tl) (a := a) (j := j) (vs := vs) zs (fun z => V.ref z.1) (fun z => b z.2) (fun z => V.ref z.1) h (sq_of g1) (by rw [hlen]; exact hz) hw
    (fun z H2 e2 hzm => ht z.1 z.2 H2 e2 (by rw [← g2]; exact List.mem_map.mpr ⟨z, hzm, rfl⟩) (e2 _ _ (g3 z hzm))) (fun z H2 e2 hzm _ => he z.1 H2)
  refine hh H0 e0 Q fun q H2 hq e2 h2 => k q H2 hq e2 ⟨zs.filter fun z => b z.2, h2, ?_, fun z hzm => e2 _ _ (e0 _ _ (g3 z (List.mem_filter.mp hzm).1))⟩
  rw [← g2, List.filter_map]
  rfl
/-- the same, a value of each object -/
theorem el_lcO {γ : Type} {o : β → HO} {g : γ → V} {j : Nat} {vs : List Nat} {a : Addr} (l : List β) (v : β → γ) (h : Ev tl σ H (.ref a)) (hO : Objs o H a l) (hz : l.length ≤ 40000) (hw : ∀ x, wipe ((wipe σ vs).set j (some x)) vs = wipe σ vs)
    (he : ∀ (q : Addr) (x : β) H1, Ex H H1 → x ∈ l → H1 q = some (o x) → Ev te ((wipe σ vs).set j (some (.ref q))) H1 (g (v x))) :
    EvL (tLc (iList K tl) (gName j) tYes te vs) σ H ((l.map v).map g) := by
  obtain ⟨zs, g1, g2, g3⟩ := hO
  have hlen : zs.length = l.length := by rw [← g2, List.length_map]
  have hh := el_lcA (K := K) (σ := σ) (H := H) (te := te) (t := tYes) (tl := tl) (a := a) (j := j) (vs := vs) zs (fun z => V.ref z.1) (fun _ => true) (fun z => g (v z.2)) h (sq_of g1) (by rw [hlen]; exact hz) hw
    (fun z H2 e2 hzm => fun H3 _ Q q => q H3 (Ex.refl H3)) (fun z H2 e2 hzm _ => he z.1 z.2 H2 e2 (by rw [← g2]; exact List.mem_map.mpr ⟨z, hzm, rfl⟩) (e2 _ _ (g3 z hzm)))
  have e : (zs.filter fun _ => true).map (fun z => g (v z.2)) = (l.map v).map g := by
    rw [List.filter_eq_self.mpr fun _ _ => rfl, ← g2, List.map_map, List.map_map]
    rfl
  rw [e] at hh
  exact hh
theorem et_yes {b : Bool} (h : b = true) : EvT tYes σ H b := fun H1 _ Q q => by
  have q1 := q H1 (Ex.refl H1)
  rw [h] at q1
  exact q1
theorem ev_all {bs : List Bool} (h : EvL te σ H (bs.map V.bl)) : Ev (tCB (rAll K) (tCons te tNil)) σ H (.bl (bs.all id)) := fun H1 e Q q =>
  h H1 e _ fun p H2 _ e2 h2 => ⟨p, bs, rfl, sq_of h2, q H2 e2⟩
theorem ev_any {bs : List Bool} (h : EvL te σ H (bs.map V.bl)) : Ev (tCB (rAny K) (tCons te tNil)) σ H (.bl (bs.any id)) := fun H1 e Q q =>
  h H1 e _ fun p H2 _ e2 h2 => ⟨p, bs, rfl, sq_of h2, q H2 e2⟩
theorem ev_sum {p : Addr} {ns : List Int} (h : Ev te σ H (.ref p)) (hp : H p = some (.lst (iV ns))) : Ev (tCB (rSum K) (tCons te tNil)) σ H (.int ns.sum) := fun H1 e Q q =>
  h H1 e _ fun H2 e2 => ⟨p, ns, rfl, sq_of (e2 _ _ (e _ _ hp)), q H2 e2⟩
theorem ev_min2 {i j : Int} {ta tb : TE} (ha : Ev ta σ H (.int i)) (hb : Ev tb σ H (.int j)) : Ev (tCB (fun xs H Q => ∃ i j, xs = [.int i, .int j] ∧ Q (.int (if j < i then j else i)) H) (tCons ta (tCons tb tNil))) σ H (.int (if j < i then j else i)) := fun H1 e Q q =>
  ha H1 e _ fun H2 e2 => hb H2 (e.trans e2) _ fun H3 e3 => ⟨i, j, rfl, q H3 (e2.trans e3)⟩
/-- a comprehension over range(n), its answers by the turn -/
theorem el_lcR {ta : TA} {j : Nat} {vs : List Nat} {n : Nat} (b : Nat → Bool) (v : Nat → V) (h : EvA ta σ H [.int (n : Int)]) (hn : n ≤ 40000) (hw : ∀ x, wipe ((wipe σ vs).set j (some x)) vs = wipe σ vs)
    (ht : ∀ (i : Nat) H1, Ex H H1 → i < n → EvT t ((wipe σ vs).set j (some (.int (i : Int)))) H1 (b i)) (he : ∀ (i : Nat) H1, Ex H H1 → i < n → b i = true → Ev te ((wipe σ vs).set j (some (.int (i : Int)))) H1 (v i)) :
    EvL (tLc (iRng1 ta) (gName j) t te vs) σ H (((List.range n).filter b).map v) := by
  have hh := el_lcR1 (t := t) (te := te) (j := j) (vs := vs) b v h (by omega) hw (fun i H1 e hi => ht i H1 e (by omega)) (fun i H1 e hi hb => he i H1 e (by omega) hb)
  rw [Int.toNat_natCast] at hh
  exact hh
/-- arguments of which some are new lists -/
def EvAP (ta : TA) (σ : L2.St) (H : Hp) (Pq : List V → Hp → Prop) : Prop := ∀ H1, Ex H H1 → ∀ Q : List V → Hp → Prop, (∀ vs H2, Ex H1 H2 → Pq vs H2 → Q vs H2) → ta σ H1 Q
theorem eap_nil : EvAP tNil σ H (fun vs _ => vs = []) := fun H1 _ Q q => q [] H1 (Ex.refl H1) rfl
theorem eap_cons {ta : TE} {tr : TA} {x : V} {Pq : List V → Hp → Prop} (h : Ev ta σ H x) (hr : EvAP tr σ H Pq) : EvAP (tCons ta tr) σ H (fun vs H' => ∃ r, vs = x :: r ∧ Pq r H') := fun H1 e Q q =>
  h H1 e _ fun H2 e2 => hr H2 (e.trans e2) _ fun vs H3 e3 hp => q _ H3 (e2.trans e3) ⟨vs, rfl, hp⟩
theorem eap_consL {ta : TE} {tr : TA} {xs : List V} {Pq : List V → Hp → Prop} (h : EvL ta σ H xs) (hr : EvAP tr σ H Pq) : EvAP (tCons ta tr) σ H (fun vs H' => ∃ p r, vs = .ref p :: r ∧ H' p = some (.lst xs) ∧ Pq r H') := fun H1 e Q q =>
  h H1 e _ fun p H2 _ e2 hp => hr H2 (e.trans e2) _ fun vs H3 e3 hq => q _ H3 (e2.trans e3) ⟨p, vs, rfl, e3 _ _ hp, hq⟩
theorem ev_SVP {args : α → List V} {pre : α → Hp → Prop} {out : α → V} {ta : TA} {E : XK} {v : V} {Pq : List V → Hp → Prop} (ha : EvAP ta σ H Pq) (h : ∀ vs H2, Ex H H2 → Pq vs H2 → ∃ x, vs = args x ∧ pre x H2 ∧ out x = v) : Ev (tCall (SV args pre out) [] E ta) σ H v := fun H1 e Q q =>
  ha H1 e _ fun vs H2 e2 hp => by
    obtain ⟨x, h1, h2, h3⟩ := h vs H2 (e.trans e2) hp
    show SV args pre out (vs ++ []) H2 Q E
    rw [List.append_nil]
    exact ⟨x, h1, h2, fun H3 e3 => h3 ▸ q H3 (e2.trans e3)⟩
theorem cut_take (l : List V) (n : Nat) : cutV l none (some (n : Int)) = l.take n := by
  unfold cutV
  rw [HT.sIx_none, HT.sIx_nat, List.drop_zero, Nat.sub_zero]
  by_cases h : n ≤ l.length
  · rw [Nat.min_eq_left h]
  · rw [Nat.min_eq_right (by omega), List.take_length, List.take_of_length_le (by omega)]
theorem cut_drop (l : List V) (n : Nat) : cutV l (some (n : Int)) none = l.drop n := by
  unfold cutV
  rw [HT.sIx_none, HT.sIx_nat]
  by_cases h : n ≤ l.length
  · rw [Nat.min_eq_left h, List.take_of_length_le (by rw [List.length_drop]; omega)]
  · rw [Nat.min_eq_right (by omega), List.drop_length, List.drop_of_length_le (by omega), List.take_nil]
theorem iV_take (l : List Int) (n : Nat) : (iV l).take n = iV (l.take n) := (List.map_take).symm
theorem iV_drop (l : List Int) (n : Nat) : (iV l).drop n = iV (l.drop n) := (List.map_drop).symm
theorem nI_take (l : List Nat) (n : Nat) : (nI l).take n = nI (l.take n) := (List.map_take).symm
theorem rg_iV (n : Nat) : rgV 0 (n : Int) = iV (nI (List.range n)) := by
  unfold rgV iV nI
  rw [List.map_map, show ((n : Int) - 0).toNat = n by omega]
  refine List.map_congr_left fun i _ => ?_
  show V.int (0 + (i : Int)) = V.int (i : Int)
  rw [Int.zero_add]
/-! lists of ints as data -/
theorem dp_ints : ∀ l : List Int, DpAll K H (iV l) (l.map PyData.int)
  | [] => .nil
  | i :: r => .cons (.int i) (dp_ints r)
theorem lay_ints : ∀ l : List Int, PyData.canLayAll0 (l.map PyData.int) = true
  | [] => rfl
  | i :: r => by
    show (PyData.canLay0 (.int i) && PyData.canLayAll0 (r.map PyData.int)) = true
    rw [lay_ints r]
    rfl
theorem depth_ints : ∀ l : List Int, PyData.depthAll (l.map PyData.int) = 0
  | [] => rfl
  | i :: r => by
    show max 0 (PyData.depthAll (r.map PyData.int)) = 0
    rw [depth_ints r]
    rfl
theorem shaped_ints (l : List Int) : SeqAt.shaped (.list (l.map PyData.int)) = true := by
  unfold SeqAt.shaped
  rw [Bool.and_eq_true]
  refine ⟨lay_ints l, decide_eq_true ?_⟩
  show PyData.depthAll (l.map PyData.int) + 1 ≤ 64
  rw [depth_ints]
  decide
theorem eqv_ints : ∀ a b : List Int, PyData.eqvAll (a.map PyData.int) (b.map PyData.int) = decide (a = b)
  | [], [] => rfl
  | [], _ :: _ => rfl
  | _ :: _, [] => rfl
  | x :: a, y :: b => by
    show ((x == y) && PyData.eqvAll (a.map PyData.int) (b.map PyData.int)) = _
    rw [eqv_ints a b, Bool.eq_iff_iff, Bool.and_eq_true, beq_iff_eq, decide_eq_true_eq, decide_eq_true_eq, List.cons.injEq]
end
/-! ### the rules whose reading names the written part: K by name, that a comprehension's block may read them too -/
section
variable {X : Cx} {K : PySem.W.Frag}
theorem ix_listK (h : X.K = K := by rfl) : IxR X (rIxL K) := h ▸ ix_list
theorem ix_tupK (h : X.K = K := by rfl) : IxR X (rIxT K) := h ▸ ix_tup
theorem sl_listK (h : X.K = K := by rfl) : SlR X (rSlL K) := h ▸ sl_list
theorem op_in_seqK (h : X.K = K := by rfl) : OpR X (compareOp .In) (rIn K false) := h ▸ op_in_seq
theorem op_notIn_seqK (h : X.K = K := by rfl) : OpR X (compareOp .NotIn) (rIn K true) := h ▸ op_notIn_seq
theorem cr_allK (hc : X.calm = true) (h : X.K = K := by rfl) : CallR X (.builtin "all") (rAll K) := h ▸ cr_all hc
theorem cr_anyK (hc : X.calm = true) (h : X.K = K := by rfl) : CallR X (.builtin "any") (rAny K) := h ▸ cr_any hc
theorem cr_sumK (hc : X.calm = true) (h : X.K = K := by rfl) : CallR X (.builtin "sum") (rSum K) := h ▸ cr_sum hc
theorem pi_listK {tg l : Expr} {tl : TE} (hl : PE X l tl) (h : X.K = K := by rfl) : PI X tg l (iList K tl) := h ▸ pi_list hl
end
end BB
/-! the chains: breadth first in the program, depth first in the specification -/
namespace BB
open Sr115 (Floor pieceAt)
def fitsB (f : Floor) (laid : List Nat) (i : Nat) : Bool := if laid.contains i then false else if laid = [] then true else (pieceAt f (laid.getLastD 0)).right == (pieceAt f i).left
theorem last_mem {l : List Nat} (h : l ≠ []) : l.getLastD 0 ∈ l := by
  rw [List.getLastD_eq_getLast?, List.getLast?_eq_some_getLast h]
  exact List.getLast_mem h
/-- the chains that are one piece longer than laid -/
def ext (f : Floor) (laid : List Nat) : List (List Nat) := ((List.range f.length).filter (fitsB f laid)).map fun i => laid ++ [i]
def longerM (f : Floor) (css : List (List Nat)) : List (List Nat) := css.flatMap (ext f)
def itB (f : Floor) : Nat → List (List Nat)
  | 0 => [[]]
  | j + 1 => longerM f (itB f j)
theorem ext_len (f : Floor) (laid : List Nat) : (ext f laid).length ≤ f.length := by
  unfold ext
  rw [List.length_map]
  have h := List.length_filter_le (fitsB f laid) (List.range f.length)
  rw [List.length_range] at h
  exact h
theorem longer_len (f : Floor) : ∀ css : List (List Nat), (longerM f css).length ≤ css.length * f.length
  | [] => by simp [longerM]
  | c :: r => by
    have h1 := longer_len f r
    have h2 := ext_len f c
    unfold longerM at h1 ⊢
    rw [List.flatMap_cons, List.length_append, List.length_cons, Nat.succ_mul]
    omega
theorem mem_ext {f : Floor} {laid r : List Nat} (h : r ∈ ext f laid) : ∃ i, i < f.length ∧ fitsB f laid i = true ∧ r = laid ++ [i] := by
  obtain ⟨i, hi, rfl⟩ := List.mem_map.mp h
  obtain ⟨h1, h2⟩ := List.mem_filter.mp hi
  exact ⟨i, List.mem_range.mp h1, h2, rfl⟩
theorem itB_row (f : Floor) : ∀ (j : Nat) (r : List Nat), r ∈ itB f j → r.length = j ∧ ∀ x ∈ r, x < f.length
  | 0, r, h => by
    have e : r = [] := List.mem_singleton.mp h
    subst e
    exact ⟨rfl, fun x hx => by cases hx⟩
  | j + 1, r, h => by
    obtain ⟨c, hc, hr⟩ := List.mem_flatMap.mp (show r ∈ (itB f j).flatMap (ext f) from h)
    obtain ⟨i, hi, _, rfl⟩ := mem_ext hr
    obtain ⟨h1, h2⟩ := itB_row f j c hc
    refine ⟨by rw [List.length_append, h1]; rfl, fun x hx => ?_⟩
    rcases List.mem_append.mp hx with hx | hx
    · exact h2 x hx
    · rw [List.mem_singleton] at hx
      rw [hx]
      exact hi
theorem itB_nil (f : Floor) {j : Nat} (h : itB f j = []) : ∀ k, itB f (j + k) = []
  | 0 => h
  | k + 1 => by
    show longerM f (itB f (j + k)) = []
    rw [itB_nil f h k]
    rfl
/-! ### depth first, to a depth -/
def grow (f : Floor) : Nat → List Nat → List (List Nat)
  | 0, laid => [laid]
  | j + 1, laid => (ext f laid).flatMap (grow f j)
/-- breadth first from any rows -/
def itL (f : Floor) : Nat → List (List Nat) → List (List Nat)
  | 0, css => css
  | j + 1, css => itL f j (longerM f css)
theorem itL_longer (f : Floor) : ∀ (j : Nat) (css : List (List Nat)), itL f j (longerM f css) = longerM f (itL f j css)
  | 0, _ => rfl
  | j + 1, css => itL_longer f j (longerM f css)
theorem itB_itL (f : Floor) : ∀ j, itB f j = itL f j [[]]
  | 0 => rfl
  | j + 1 => by
    show longerM f (itB f j) = itL f j (longerM f [[]])
    rw [itB_itL f j, itL_longer]
theorem itL_grow (f : Floor) : ∀ (j : Nat) (css : List (List Nat)), itL f j css = css.flatMap (grow f j)
  | 0, css => by
    show css = css.flatMap fun l => [l]
    induction css with
    | nil => rfl
    | cons c r ih => rw [List.flatMap_cons, ← ih]; rfl
  | j + 1, css => by
    show itL f j (longerM f css) = css.flatMap fun l => (ext f l).flatMap (grow f j)
    rw [itL_grow f j, longerM, List.flatMap_assoc]
/-! ### the specification's, to a depth -/
def okMark (f : Floor) (mark : Option Nat) (i : Nat) : Bool := match mark with
  | none => true
  | some m => (pieceAt f i).left == m
def dfs (f : Floor) : Nat → List Nat → Option Nat → List (List Nat)
  | 0, _, _ => [[]]
  | j + 1, rem, mark => (rem.filter (okMark f mark)).flatMap fun i => (dfs f j (rem.filter fun k => k != i) (some (pieceAt f i).right)).map fun r => i :: r
def remOf (f : Floor) (laid : List Nat) : List Nat := (List.range f.length).filter fun i => !laid.contains i
def markOf (f : Floor) (laid : List Nat) : Option Nat := if laid = [] then none else some (pieceAt f (laid.getLastD 0)).right
theorem fits_eq (f : Floor) (laid : List Nat) : (List.range f.length).filter (fitsB f laid) = (remOf f laid).filter (okMark f (markOf f laid)) := by
  unfold remOf
  rw [List.filter_filter]
  congr 1
  funext i
  unfold fitsB okMark markOf
  by_cases c : laid.contains i = true
  · rw [if_pos c, c]
    simp
  · rw [if_neg c, (Bool.not_eq_true _).mp c]
    by_cases e : laid = []
    · rw [if_pos e, if_pos e]
      rfl
    · rw [if_neg e, if_neg e]
      simp only [Bool.not_false, Bool.and_true]
      rw [Bool.eq_iff_iff, beq_iff_eq, beq_iff_eq]
      exact eq_comm
theorem rem_app (f : Floor) (laid : List Nat) (i : Nat) : (remOf f laid).filter (fun k => k != i) = remOf f (laid ++ [i]) := by
  unfold remOf
  rw [List.filter_filter]
  congr 1
  funext k
  simp only [List.contains_append, List.contains_cons, List.contains_nil, Bool.or_false, Bool.not_or, bne]
  exact Bool.and_comm _ _
theorem mark_app (f : Floor) (laid : List Nat) (i : Nat) : markOf f (laid ++ [i]) = some (pieceAt f i).right := by
  unfold markOf
  rw [if_neg (by simp)]
  congr 3
  rw [List.getLastD_eq_getLast?, List.getLast?_append]
  rfl
theorem grow_dfs (f : Floor) : ∀ (j : Nat) (laid : List Nat), grow f j laid = (dfs f j (remOf f laid) (markOf f laid)).map fun r => laid ++ r
  | 0, laid => by
    show [laid] = [laid ++ []]
    rw [List.append_nil]
  | j + 1, laid => by
    show (ext f laid).flatMap (grow f j) = (((remOf f laid).filter (okMark f (markOf f laid))).flatMap fun i => (dfs f j ((remOf f laid).filter fun k => k != i) (some (pieceAt f i).right)).map fun r => i :: r).map fun r => laid ++ r
    unfold ext
    rw [fits_eq, List.flatMap_map, List.map_flatMap]
    congr 1
    funext i
    rw [grow_dfs f j (laid ++ [i]), rem_app, mark_app, List.map_map]
    congr 1
    funext r
    show laid ++ [i] ++ r = laid ++ (i :: r)
    rw [List.append_assoc]
    rfl
theorem dfs_spec (f : Floor) : ∀ (j : Nat) (rem : List Nat) (mark : Option Nat), rem.Nodup → rem.length = j → Sr115.chainsFrom f j rem mark = dfs f j rem mark
  | 0, _, _, _, _ => rfl
  | j + 1, rem, mark, nd, hl => by
    have ne : rem ≠ [] := fun z => by rw [z] at hl; cases hl
    unfold Sr115.chainsFrom
    rw [if_neg ne]
    have e : (rem.filter fun i => match mark with
      | none => true
      | some m => (pieceAt f i).left == m) = rem.filter (okMark f mark) := by cases mark <;> rfl
    refine (congrArg (fun z => List.flatMap (fun i => (Sr115.chainsFrom f j (rem.filter fun j => j != i) (some (pieceAt f i).right)).map fun r => i :: r) z) e).trans ?_
    unfold dfs
    rw [List.flatMap_def, List.flatMap_def]
    congr 1
    refine List.map_congr_left fun i hi => ?_
    have hm : i ∈ rem := (List.mem_filter.mp hi).1
    rw [dfs_spec f j _ _ (nd.filter _) ?_]
    rw [← nd.erase_eq_filter i, List.length_erase_of_mem hm, hl]
    rfl
theorem complete_eq (f : Floor) : itB f f.length = Sr115.completeChains f := by
  have h0 : remOf f [] = List.range f.length := by
    unfold remOf
    exact List.filter_eq_self.mpr fun _ _ => rfl
  rw [itB_itL, itL_grow]
  show grow f f.length [] ++ [] = Sr115.chainsFrom f f.length (List.range f.length) none
  rw [List.append_nil, grow_dfs, h0, dfs_spec f _ _ _ List.nodup_range List.length_range]
  show (dfs f f.length (List.range f.length) none).map (fun r => r) = _
  exact List.map_id' _
/-! ### how many -/
def fac : Nat → Nat
  | 0 => 1
  | n + 1 => (n + 1) * fac n
theorem fac_pos : ∀ n, 1 ≤ fac n
  | 0 => Nat.le_refl _
  | n + 1 => Nat.le_trans (fac_pos n) (Nat.le_mul_of_pos_left _ (Nat.succ_pos n))
theorem fac_mono : ∀ {m n : Nat}, m ≤ n → fac m ≤ fac n
  | m, 0, h => by
    have e : m = 0 := by omega
    rw [e]
    exact Nat.le_refl _
  | m, n + 1, h => by
    by_cases e : m = n + 1
    · rw [e]
      exact Nat.le_refl _
    · exact Nat.le_trans (fac_mono (show m ≤ n by omega)) (Nat.le_mul_of_pos_left _ (Nat.succ_pos n))
theorem flatMap_len {α β : Type} (g : α → List β) (b : Nat) : ∀ (l : List α), (∀ x ∈ l, (g x).length ≤ b) → (l.flatMap g).length ≤ l.length * b
  | [], _ => by simp
  | x :: r, h => by
    have h1 := flatMap_len g b r fun y hy => h y (List.mem_cons_of_mem _ hy)
    have h2 := h x List.mem_cons_self
    rw [List.flatMap_cons, List.length_append, List.length_cons, Nat.succ_mul]
    omega
theorem dfs_len (f : Floor) : ∀ (j : Nat) (rem : List Nat) (mark : Option Nat), (dfs f j rem mark).length ≤ fac rem.length
  | 0, rem, _ => fac_pos _
  | j + 1, rem, mark => by
    unfold dfs
    cases hr : rem.length with
    | zero =>
      have e : rem = [] := List.eq_nil_of_length_eq_zero hr
      subst e
      exact Nat.zero_le _
    | succ n =>
      have h := flatMap_len (fun i => (dfs f j (rem.filter fun k => k != i) (some (pieceAt f i).right)).map fun r => i :: r) (fac n) (rem.filter (okMark f mark)) fun i hi => by
        rw [List.length_map]
        refine Nat.le_trans (dfs_len f j _ _) (fac_mono ?_)
        have hm : i ∈ rem := (List.mem_filter.mp hi).1
        have q : (rem.filter fun k => k != i).length < rem.length := List.length_filter_lt_length_iff_exists.mpr ⟨i, hm, by simp⟩
        omega
      refine Nat.le_trans h (Nat.mul_le_mul ?_ (Nat.le_refl _))
      have h2 := List.length_filter_le (okMark f mark) rem
      omega
theorem itB_len (f : Floor) (h7 : f.length ≤ 7) (j : Nat) : (itB f j).length ≤ 5040 := by
  rw [itB_itL, itL_grow]
  show (grow f j [] ++ []).length ≤ 5040
  rw [List.append_nil, grow_dfs, List.length_map]
  refine Nat.le_trans (dfs_len f j _ _) ?_
  refine Nat.le_trans (fac_mono (n := 7) ?_) (by decide)
  have h2 := List.length_filter_le (fun i => !([] : List Nat).contains i) (List.range f.length)
  rw [List.length_range] at h2
  exact Nat.le_trans h2 h7
theorem complete_row {f : Floor} {r : List Nat} (h : r ∈ Sr115.completeChains f) : r.length = f.length ∧ ∀ x ∈ r, x < f.length := itB_row f f.length r (by rw [complete_eq]; exact h)
theorem complete_len {f : Floor} (h7 : f.length ≤ 7) : (Sr115.completeChains f).length ≤ 5040 := by
  rw [← complete_eq]
  exact itB_len f h7 _
theorem range_yes {p : Nat → Bool} {j : Nat} (h : p j = true) : (List.range (j + 1)).filter p = (List.range j).filter p ++ [j] := by
  rw [List.range_succ, List.filter_append, List.filter_cons_of_pos h]
  rfl
theorem range_no {p : Nat → Bool} {j : Nat} (h : p j = false) : (List.range (j + 1)).filter p = (List.range j).filter p := by
  rw [List.range_succ, List.filter_append, List.filter_cons_of_neg (by rw [h]; decide)]
  exact List.append_nil _
end BB
namespace BB
open PySem PySem.Spec PyProof.Rows L2 Evl
open Sr115 (Floor pieceAt)
section
variable {P : Program} {w : World} {K : PySem.W.Frag} {mg : Str → Option Value} {base : Heap}
/-! ### fits_behind -/
abbrev s_fits_behind : Stmt := topS 2
theorem sc_fits_behind : FnScope ["pieces", "laid", "i"] ["pieces", "laid", "i"] (defScope s_fits_behind) := ⟨rfl, rfl, rfl, by decide +kernel, rfl, by decide +kernel, by decide +kernel⟩

structure Fits where
  a : Addr
  b : Addr
  f : Floor
  laid : List Nat
  i : Nat
def spFits (K : PySem.W.Frag) : Sp := SV (fun x : Fits => [.ref x.a, .ref x.b, .int (x.i : Int)]) (fun x H => Fl H x.a x.f ∧ SqL K H x.b (iV (nI x.laid)) ∧ (∀ j ∈ x.laid, j < x.f.length) ∧ x.i < x.f.length) (fun x => .bl (fitsB x.f x.laid x.i))
theorem mono_fits : Mono (fun (x : Fits) H => Fl H x.a x.f ∧ SqL K H x.b (iV (nI x.laid)) ∧ (∀ j ∈ x.laid, j < x.f.length) ∧ x.i < x.f.length) := fun x H H' e h => ⟨h.1.mono e, ex_l e h.2.1, h.2.2⟩
theorem ok_fits (F : Top K mg "fits_behind" s_fits_behind ["pieces", "laid", "i"]) (T : Txt K mg) : Def P w K mg base "fits_behind" 1 ["pieces", "laid", "i"] (spFits K) := by
  refine Def.of F sc_fits_behind (fun vs H Q E h => ?_) (fun ff cdv A outer s H vs Q E hr h => ?_)
  · obtain ⟨x, rfl, _⟩ := h
    rfl
  · obtain ⟨⟨a, b, f, laid, i⟩, rfl, ⟨hF, hb, hl, hi⟩, k⟩ := h
    refine ⟨_, (pss_cons (ps_if (pt_cmpR (op_in_seqK (K := K)) (pv 2) (pv 1) (by rfl)) (pss_one (ps_ret pe_bl)) pss_nil)
      (pss_cons (ps_if (pt_cmpR op_eq (pe_callB call_len_seq (by rfl) T.len PySem.boot_len (pa_cons (pv 1) pa_nil)) pe_int (nomark _)) (pss_one (ps_ret pe_bl)) pss_nil)
      (pss_one (ps_ret (pe_cmpR op_eq (pe_ix (ix_tupK (K := K)) (pe_ix (ix_listK (K := K)) (pv 0) (pe_ix (ix_listK (K := K)) (pv 1) (pe_un un_neg pe_int) (fun _ _ => rfl)) (fun _ _ => rfl)) pe_int (fun _ _ => rfl)) (pe_ix (ix_tupK (K := K)) (pe_ix (ix_listK (K := K)) (pv 0) (pv 2) (fun _ _ => rfl)) pe_int (fun _ _ => rfl)) (nomark _)))))), ?_⟩
    refine q_when (b := laid.contains i) (et_test (ev_is (ev_op (ev_var rfl) (ev_var rfl) (rv_isL hb rfl (iV_flat _))) (by rw [in_nI]))) (fun c H1 e1 => ?_) (fun c H1 e1 => ?_)
    · refine s_ret ev_c fun H2 e2 => ?_
      have e : fitsB f laid i = false := if_pos c
      exact e ▸ k H2 (e1.trans e2)
    · have n1 : ¬ laid.contains i = true := by rw [c]; decide
      refine q_when (b := laid.length == 0) (et_test (ev_is (ev_op (ev_len (ev_var rfl) (ex_l e1 hb)) ev_c (rv_eq rfl)) (by rw [iV_len, nI_len]; exact congrArg V.bl (dec_nat _ 0)))) (fun d H2 e2 => ?_) (fun d H2 e2 => ?_)
      · refine s_ret ev_c fun H3 e3 => ?_
        have e0 : laid = [] := List.eq_nil_of_length_eq_zero (eq_of_beq d)
        have e : fitsB f laid i = true := by
          unfold fitsB
          rw [if_neg n1, if_pos e0]
        exact e ▸ k H3 ((e1.trans e2).trans e3)
      · have e0 : laid ≠ [] := fun z => by
          rw [z] at d
          cases d
        have ee := e1.trans e2
        have hF2 := Objs.mono ee hF
        refine s_ret (ev_is (ev_op (ev_right (ev_var rfl) hF2 (ev_op (ev_var rfl) (ev_un ev_c ru_neg) (rv_ixL (ex_l ee hb) (at_last e0))) (hl _ (last_mem e0))) (ev_left (ev_var rfl) hF2 (ev_var rfl) hi) (rv_eq rfl)) (congrArg V.bl (dec_nat _ _))) fun H3 e3 => ?_
        have e : fitsB f laid i = ((pieceAt f (laid.getLastD 0)).right == (pieceAt f i).left) := by
          unfold fitsB
          rw [if_neg n1, if_neg e0]
        exact e ▸ k H3 (ee.trans e3)
end
end BB
namespace BB
open PySem PySem.Spec PyProof.Rows L2 Evl
open Sr115 (Floor pieceAt)
section
variable {P : Program} {w : World} {K : PySem.W.Frag} {mg : Str → Option Value} {base : Heap}
/-! ### longer_chains -/
abbrev s_longer_chains : Stmt := topS 3
theorem sc_longer_chains : FnScope ["pieces", "shorter", "longer", "laid", "i"] ["pieces", "shorter"] (defScope s_longer_chains) := ⟨rfl, rfl, rfl, by decide +kernel, rfl, by decide +kernel, by decide +kernel⟩

structure Longer where
  a : Addr
  b : Addr
  f : Floor
  css : List (List Nat)
def preLonger (x : Longer) (H : Hp) : Prop := Fl H x.a x.f ∧ Rows H x.b (x.css.map nI) ∧ (∀ r ∈ x.css, ∀ j ∈ r, j < x.f.length) ∧ x.f.length ≤ 7 ∧ x.css.length ≤ 5040 ∧ ∀ r ∈ x.css, r.length ≤ 7
theorem mono_longer : Mono preLonger := fun x H H' e h => ⟨h.1.mono e, h.2.1.mono e, h.2.2⟩
def spLonger : Sp := SB (fun x : Longer => [.ref x.a, .ref x.b]) preLonger lstO (fun x => (longerM x.f x.css).map nI)
theorem objs_len {α : Type} {zs : List (Addr × α)} {l : List α} (h : zs.map (·.2) = l) : (refs zs).length = l.length := by
  rw [← h]
  unfold refs
  rw [List.length_map, List.length_map]
theorem ok_longer (F : Top K mg "longer_chains" s_longer_chains ["pieces", "shorter"]) (T : Txt K mg) (D_fits_behind : Def P w K mg base "fits_behind" 1 ["pieces", "laid", "i"] (spFits K)) :
    Def P w K mg base "longer_chains" 2 ["pieces", "shorter"] spLonger := by
  refine Def.of F sc_longer_chains (fun vs H Q E h => ?_) (fun ff cdv A outer s H vs Q E hr h => ?_)
  · obtain ⟨x, rfl, _⟩ := h
    rfl
  · obtain ⟨⟨a, b, f, css⟩, rfl, ⟨hF, hb, hl, h7, hz, hr7⟩, k⟩ := h
    replace h7 : f.length ≤ 7 := h7
    replace hz : css.length ≤ 5040 := hz
    replace hl : ∀ r ∈ css, ∀ j ∈ r, j < f.length := hl
    replace hr7 : ∀ r ∈ css, r.length ≤ 7 := hr7
    replace hF : Fl H a f := hF
    replace hb : Rows H b (css.map nI) := hb
    replace k : RetB lstO ((longerM f css).map nI) H Q := k
    refine ⟨_, (pss_cons (ps_set (i := 2) sc_longer_chains.nd rfl (Or.inl rfl) (pe_lst pa_nil))
      (pss_cons (ps_for PassesOwn.never rfl (pi_listK (K := K) (pv 1)) (pg_name (i := 3) sc_longer_chains.nd rfl (Or.inl rfl)) (pss_one (ps_for PassesOwn.never rfl (pi_range1 rfl T.range (pa_cons (pe_callB call_len_seq (by rfl) T.len PySem.boot_len (pa_cons (pv 0) pa_nil)) pa_nil)) (pg_name (i := 4) sc_longer_chains.nd rfl (Or.inl rfl)) (pss_one (ps_if (pt_val (pe_callD D_fits_behind (hr.mono (by decide)) rfl (pa_cons (pv 0) (pa_cons (pv 3) (pa_cons (pv 4) pa_nil))))) (pss_one (ps_expr (pe_bm PySem.F.plainAttrs_list PySem.F.slot_list_append PySem.F.type_list_append mt_append (pv 2) (pa_cons (pe_op op_cat (pv 3) (pe_lst (pa_cons (pv 4) pa_nil))) pa_nil)))) pss_nil)))))
      (pss_one (ps_ret (pv 2))))), ?_⟩
    refine q_asgL (el_lst ea_nil (by decide)) fun p H1 hp e1 h1 => ?_
    have hb0 := hb
    obtain ⟨zs, g1, g2, g3⟩ := hb
    refine q_forLn (xs := refs zs) (ev_var rfl) (sq_of (e1 _ _ g1)) (fun i σ' H' => ∃ v3 v4, σ' = [some (.ref a), some (.ref b), some (.ref p), v3, v4] ∧ Ex H H' ∧ Rows H' p ((longerM f (css.take i)).map nI))
      (fun H2 e2 => ⟨none, none, rfl, e1.trans e2, Objs.nil (e2 _ _ h1)⟩) (fun i σ' H' _ hP => ?_) (fun i x σ' H' hx hP => ?_) (fun σ' H' hP => ?_)
    · obtain ⟨_, _, _, ee, _⟩ := hP
      exact sq_of (ee _ _ g1)
    · obtain ⟨v3, v4, rfl, ee, hO⟩ := hP
      obtain ⟨z, hz1, rfl⟩ : ∃ z, zs[i]? = some z ∧ x = V.ref z.1 := by
        unfold refs at hx
        rw [List.getElem?_map] at hx
        cases hq : zs[i]? with
        | none => rw [hq] at hx; cases hx
        | some z =>
          rw [hq] at hx
          exact ⟨z, rfl, (Option.some.inj hx).symm⟩
      obtain ⟨laid, hla, hlz⟩ : ∃ laid, css[i]? = some laid ∧ z.2 = nI laid := by
        have e : (zs.map (·.2))[i]? = (css.map nI)[i]? := by rw [g2]
        rw [List.getElem?_map, List.getElem?_map, hz1] at e
        cases hq : css[i]? with
        | none => rw [hq] at e; cases e
        | some y =>
          rw [hq] at e
          exact ⟨y, rfl, Option.some.inj e⟩
      have hrow : H' z.1 = some (.lst (iV (nI laid))) := by
        have q := ee _ _ (g3 z (List.mem_of_getElem? hz1))
        rw [hlz] at q
        exact q
      have hin := hl laid (List.mem_of_getElem? hla)
      have hcss : css.take (i + 1) = css.take i ++ [laid] := by
        rw [List.take_add_one, hla]
        rfl
      have hlen1 : (longerM f (css.take i)).length ≤ 5040 * 7 := by
        refine Nat.le_trans (longer_len f _) (Nat.mul_le_mul ?_ h7)
        rw [List.length_take]
        omega
      refine s_forR1 (n := (f.length : Int)) (ea_cons (ev_lenO (ev_var rfl) (hF.mono ee)) ea_nil) (by omega) (fun j σ' H2 => ∃ v4, σ' = [some (.ref a), some (.ref b), some (.ref p), some (.ref z.1), v4] ∧ Ex H H2 ∧
          Rows H2 p ((longerM f (css.take i) ++ ((List.range j).filter (fitsB f laid)).map fun m => laid ++ [m]).map nI))
        (fun H2 e2 => ⟨v4, rfl, ee.trans e2, ?_⟩) (fun j σ' H2 hj hP => ?_) (fun σ' H2 hP => ?_)
      · show Rows H2 p ((longerM f (css.take i) ++ []).map nI)
        rw [List.append_nil]
        exact hO.mono e2
      · obtain ⟨v4, rfl, e2, hO2⟩ := hP
        have hjn : j < f.length := by omega
        have hrow2 : H2 z.1 = some (.lst (iV (nI laid))) := by
          have q := e2 _ _ (g3 z (List.mem_of_getElem? hz1))
          rw [hlz] at q
          exact q
        refine s_when (b := fitsB f laid j) (et_B (ev_SV mono_fits ⟨a, z.1, f, laid, j⟩ (ea_cons (ev_var rfl) (ea_cons (ev_var rfl) (ea_cons (ev_var rfl) ea_nil))) ⟨hF.mono e2, sq_of hrow2, hin, hjn⟩)) (fun c H3 e3 => ?_) (fun c H3 e3 => ?_)
        · obtain ⟨ys, q1, q2, q3⟩ := hO2
          have hl7 := hr7 laid (List.mem_of_getElem? hla)
          refine s_appL (e3 _ _ q1) (ev_var rfl) (el_cat (es_ref (ev_var rfl) (e3 _ _ hrow2)) (es_L (el_lst (ea_cons (ev_var rfl) ea_nil) (by show 1 ≤ 100000; decide))) ?_) ?_ (fun q H4 hq e4 h4 => ?_)
          · rw [iV_len, nI_len]
            show laid.length + 1 ≤ 10000000
            omega
          · rw [objs_len q2, List.length_map, List.length_append, List.length_map]
            have q5 := List.length_filter_le (fitsB f laid) (List.range j)
            rw [List.length_range] at q5
            omega
          · have hqp : q ≠ p := fun z => by
              rw [z, e3 _ _ q1] at hq
              cases hq
            have h5 : H4 q = some (lstO (nI (laid ++ [j]))) := by
              rw [h4, nI_app]
              unfold lstO
              rw [iV_app]
              rfl
            refine ⟨_, rfl, Ex.mut ((e2.trans e3).trans e4) hp, ?_⟩
            have hO3 := Objs.app sep_lst q1 q3 (e3.trans e4) h5 hqp
            rw [q2] at hO3
            have e9 : (longerM f (css.take i) ++ ((List.range (j + 1)).filter (fitsB f laid)).map fun m => laid ++ [m]).map nI = (longerM f (css.take i) ++ ((List.range j).filter (fitsB f laid)).map fun m => laid ++ [m]).map nI ++ [nI (laid ++ [j])] := by
              rw [range_yes c, List.map_append, List.map_append, List.map_append, List.map_append, List.append_assoc]
              rfl
            rw [e9]
            exact hO3
        · refine ⟨_, rfl, e2.trans e3, ?_⟩
          rw [range_no c]
          exact hO2.mono e3
      · obtain ⟨v4, rfl, e2, hO2⟩ := hP
        refine ⟨_, _, rfl, e2, ?_⟩
        rw [Int.toNat_natCast] at hO2
        rw [hcss]
        have e : longerM f (css.take i ++ [laid]) = longerM f (css.take i) ++ ext f laid := by
          unfold longerM
          rw [List.flatMap_append]
          show _ ++ (ext f laid ++ []) = _
          rw [List.append_nil]
        rw [e]
        exact hO2
    · obtain ⟨v3, v4, rfl, ee, hO⟩ := hP
      refine s_ret (ev_var rfl) fun H2 e2 => k p H2 hp (ee.trans e2) ?_
      have e : (refs zs).length = css.length := by rw [objs_len g2, List.length_map]
      rw [e, List.take_length] at hO
      exact hO.mono e2
/-! ### complete_chains -/
abbrev s_complete_chains : Stmt := topS 4
theorem sc_complete_chains : FnScope ["pieces", "found"] ["pieces"] (defScope s_complete_chains) := ⟨rfl, rfl, rfl, by decide +kernel, rfl, by decide +kernel, by decide +kernel⟩

structure PF where
  a : Addr
  f : Floor
def preF (x : PF) (H : Hp) : Prop := Fl H x.a x.f ∧ Fok x.f
theorem mono_F : Mono preF := fun x H H' e h => ⟨h.1.mono e, h.2⟩
def spComplete : Sp := SB (fun x : PF => [.ref x.a]) preF lstO (fun x => (Sr115.completeChains x.f).map nI)
theorem ok_complete (F : Top K mg "complete_chains" s_complete_chains ["pieces"]) (T : Txt K mg) (D_longer_chains : Def P w K mg base "longer_chains" 2 ["pieces", "shorter"] spLonger) :
    Def P w K mg base "complete_chains" 3 ["pieces"] spComplete := by
  refine Def.of F sc_complete_chains (fun vs H Q E h => ?_) (fun ff cdv A outer s H vs Q E hr h => ?_)
  · obtain ⟨x, rfl, _⟩ := h
    rfl
  · obtain ⟨⟨a, f⟩, rfl, ⟨hF, hk⟩, k⟩ := h
    replace hF : Fl H a f := hF
    replace hk : Fok f := hk
    replace k : RetB lstO ((Sr115.completeChains f).map nI) H Q := k
    refine ⟨_, (pss_cons (ps_set (i := 1) sc_complete_chains.nd rfl (Or.inl rfl) (pe_lst (pa_cons (pe_lst pa_nil) pa_nil)))
      (pss_cons (ps_while PassesOwn.never (PW.pt (pw_and (pt_cmpR op_gt (pe_callB call_len_seq (by rfl) T.len PySem.boot_len (pa_cons (pv 1) pa_nil)) pe_int (nomark _)) (pw_and1 (pt_cmpR op_lt (pe_callB call_len_seq (by rfl) T.len PySem.boot_len (pa_cons (pe_ix (ix_listK (K := K)) (pv 1) pe_int (fun _ _ => rfl)) pa_nil)) (pe_callB call_len_seq (by rfl) T.len PySem.boot_len (pa_cons (pv 0) pa_nil)) (nomark _))))) (pss_one (ps_set (i := 1) sc_complete_chains.nd rfl (Or.inl rfl) (pe_callD D_longer_chains (hr.mono (by decide)) rfl (pa_cons (pv 0) (pa_cons (pv 1) pa_nil))))))
      (pss_one (ps_ret (pv 1))))), ?_⟩
    have h7 := hk.1
    -- found = [[]]
    refine q_asgB (o := lstO) (l := [nI []]) (fun H1 e Q q => ⟨Nat.zero_le _, fun r hr => ⟨by show 1 ≤ sizeLine; decide, fun d hd => ?_⟩⟩) fun p H1 hp e1 hO1 => ?_
    · have hdr : r ≠ d := fun z => by
        rw [← z, upd_same] at hd
        cases hd
      refine q d _ (fresh_back (Ex.new hr) hd) ((Ex.new hr).trans (Ex.new hd)) ⟨[(r, [])], upd_same, rfl, fun z hz => ?_⟩
      rw [List.mem_singleton] at hz
      subst hz
      show upd _ d _ r = _
      rw [upd_ne hdr, upd_same]
      rfl
    -- while
    refine q_while (fun m σ' H' => ∃ j p, m = f.length - j ∧ j ≤ f.length ∧ σ' = [some (.ref a), some (.ref p)] ∧ Ex H H' ∧ H p = none ∧ Rows H' p ((itB f j).map nI)) f.length ⟨0, p, rfl, Nat.zero_le _, rfl, e1, hp, hO1⟩ (fun m σ' H' hW => ?_)
    obtain ⟨j, p, rfl, hj, rfl, ee, hp, hO⟩ := hW
    refine ⟨decide (0 < (itB f j).length) && decide (j < f.length), et_and (a := decide (0 < (itB f j).length)) (b := decide (j < f.length)) ?_ (fun c => ?_), fun c H2 e2 => ?_, fun c H2 e2 => ?_⟩
    · refine et_test (ev_is (ev_op (ev_lenO (ev_var rfl) hO) ev_c rv_I0) (congrArg V.bl ?_))
      rw [List.length_map]
      exact decide_eq_decide.mpr (by omega)
    · have c' := of_decide_eq_true c
      obtain ⟨r0, hr0⟩ : ∃ r0, (itB f j)[0]? = some r0 := ⟨_, List.getElem?_eq_getElem c'⟩
      have hr1 : ((itB f j).map nI)[0]? = some (nI r0) := by
        rw [List.getElem?_map, hr0]
        rfl
      obtain ⟨xs, t, t1, t2, t3, t4⟩ := hO.get hr1
      have hlr := (itB_row f j r0 (List.mem_of_getElem? hr0)).1
      refine et_test (ev_is (ev_op (ev_len (ev_op (ev_var rfl) ev_c (rv_ixL (sq_of t1) (atI_nat (j := 0) t3))) (sq_of t4)) (ev_lenO (ev_var rfl) (hF.mono ee)) rv_I0) (congrArg V.bl ?_))
      rw [iV_len, nI_len, hlr]
      exact decide_eq_decide.mpr (by omega)
    · obtain ⟨c1, c2⟩ := Bool.and_eq_true_iff.mp c
      have hj2 := of_decide_eq_true c2
      refine ⟨fun σ2 H3 => ∃ p, σ2 = [some (.ref a), some (.ref p)] ∧ Ex H H3 ∧ H p = none ∧ Rows H3 p ((itB f (j + 1)).map nI), fun σ2 H3 hN => ?_, ?_⟩
      · obtain ⟨p2, q1, q2, q3, q4⟩ := hN
        exact ⟨f.length - (j + 1), by omega, j + 1, p2, rfl, hj2, q1, q2, q3, q4⟩
      · refine s_asgB (eb_SB mono_longer ⟨a, p, f, itB f j⟩ (ea_cons (ev_var rfl) (ea_cons (ev_var rfl) ea_nil)) ⟨hF.mono (ee.trans e2), hO.mono e2, fun r hr => (itB_row f j r hr).2, h7, itB_len f h7 j, fun r hr => ?_⟩) fun q H3 hq e3 hO3 => ?_
        · rw [(itB_row f j r hr).1]
          omega
        · exact ⟨q, rfl, (ee.trans e2).trans e3, fresh_back (ee.trans e2) hq, hO3⟩
    · refine s_ret (ev_var rfl) fun H3 e3 => k p H3 hp ((ee.trans e2).trans e3) ?_
      have e : itB f j = Sr115.completeChains f := by
        rw [← complete_eq]
        by_cases c1 : 0 < (itB f j).length
        · have c2 : ¬ j < f.length := fun z => by
            rw [decide_eq_true c1, decide_eq_true z] at c
            cases c
          have : j = f.length := by omega
          rw [this]
        · have e0 : itB f j = [] := List.eq_nil_of_length_eq_zero (by omega)
          have e3 := itB_nil f e0 (f.length - j)
          rw [show j + (f.length - j) = f.length by omega] at e3
          rw [e0, e3]
      rw [e] at hO
      exact (hO.mono e2).mono e3
end
end BB
/-! chains handed in -/
namespace BB
open Sr115 (Floor pieceAt)
def beginsB (f : Floor) (m : Nat) (r : List Nat) : Bool := match r.head? with
  | none => false
  | some i => (pieceAt f i).left == m
def closesB (f : Floor) (r : List Nat) : Bool := r.headD 1 == 0 && (pieceAt f (r.getLastD 0)).right == (pieceAt f 0).left
theorem circuits_eq (f : Floor) : Sr115.circuits f = (Sr115.completeChains f).filter (closesB f) := rfl
/-- is_chain: each piece fits behind those ahead of it -/
def chainB (f : Floor) (laid : List Nat) : Bool := (List.range laid.length).all fun n => fitsB f (laid.take n) (laid.getD n 0)
/-- by the pieces ahead -/
def chainFrom (f : Floor) : List Nat → List Nat → Bool
  | _, [] => true
  | pre, x :: r => fitsB f pre x && chainFrom f (pre ++ [x]) r
theorem chain_from (f : Floor) : ∀ (r pre : List Nat), ((List.range r.length).all fun n => fitsB f (pre ++ r.take n) (r.getD n 0)) = chainFrom f pre r
  | [], _ => rfl
  | x :: r, pre => by
    rw [List.length_cons, List.range_succ_eq_map, List.all_cons, List.all_map]
    show (fitsB f (pre ++ []) x && _) = (fitsB f pre x && chainFrom f (pre ++ [x]) r)
    rw [List.append_nil, ← chain_from f r (pre ++ [x])]
    congr 1
    congr 1
    funext n
    show fitsB f (pre ++ x :: r.take n) (r.getD n 0) = fitsB f (pre ++ [x] ++ r.take n) (r.getD n 0)
    rw [List.append_assoc]
    rfl
theorem fits_iff (f : Floor) (pre : List Nat) (x : Nat) : fitsB f pre x = true ↔ x ∉ pre ∧ (pre = [] ∨ (pieceAt f (pre.getLastD 0)).right = (pieceAt f x).left) := by
  unfold fitsB
  by_cases c : pre.contains x = true
  · rw [if_pos c]
    constructor
    · intro h; cases h
    · intro h; exact absurd (List.contains_iff_mem.mp c) h.1
  · rw [if_neg c]
    have c' : x ∉ pre := fun z => c (List.contains_iff_mem.mpr z)
    by_cases e : pre = []
    · rw [if_pos e]
      exact ⟨fun _ => ⟨c', .inl e⟩, fun _ => rfl⟩
    · rw [if_neg e, beq_iff_eq]
      exact ⟨fun h => ⟨c', .inr h⟩, fun h => h.2.resolve_left e⟩
theorem last_app (pre : List Nat) (x : Nat) : (pre ++ [x]).getLastD 0 = x := by
  rw [List.getLastD_eq_getLast?, List.getLast?_append]
  rfl
theorem chainFrom_iff (f : Floor) : ∀ (r pre : List Nat) (x : Nat), pre.Nodup → x ∉ pre → (chainFrom f (pre ++ [x]) r = true ↔ Sr115.isChain f (x :: r) = true ∧ (pre ++ x :: r).Nodup)
  | [], pre, x, nd, hx => by
    constructor
    · intro _
      refine ⟨rfl, ?_⟩
      rw [List.nodup_append]
      exact ⟨nd, by simp, fun a ha b hb => by
        rw [List.mem_singleton] at hb
        intro e
        rw [e, hb] at ha
        exact hx ha⟩
    · intro _; rfl
  | y :: r, pre, x, nd, hx => by
    have nd1 : (pre ++ [x]).Nodup := by
      rw [List.nodup_append]
      exact ⟨nd, by simp, fun a ha b hb => by
        rw [List.mem_singleton] at hb
        intro e
        rw [e, hb] at ha
        exact hx ha⟩
    show (fitsB f (pre ++ [x]) y && chainFrom f (pre ++ [x] ++ [y]) r) = true ↔ ((pieceAt f x).right == (pieceAt f y).left && Sr115.isChain f (y :: r)) = true ∧ (pre ++ x :: y :: r).Nodup
    rw [Bool.and_eq_true, Bool.and_eq_true, fits_iff, last_app, beq_iff_eq]
    have e : pre ++ x :: y :: r = (pre ++ [x]) ++ y :: r := by rw [List.append_assoc]; rfl
    rw [e]
    constructor
    · rintro ⟨⟨h1, h2⟩, h3⟩
      have h4 := (chainFrom_iff f r (pre ++ [x]) y nd1 h1).mp h3
      exact ⟨⟨h2.resolve_left (by simp), h4.1⟩, h4.2⟩
    · rintro ⟨⟨h1, h2⟩, h3⟩
      have hy : y ∉ pre ++ [x] := fun z => ((List.nodup_append.mp h3).2.2 y z y List.mem_cons_self) rfl
      exact ⟨⟨hy, .inr h1⟩, (chainFrom_iff f r (pre ++ [x]) y nd1 hy).mpr ⟨h2, h3⟩⟩
theorem chainB_iff (f : Floor) (r : List Nat) : chainB f r = true ↔ Sr115.isChain f r = true ∧ r.Nodup := by
  have e : chainB f r = chainFrom f [] r := chain_from f r []
  rw [e]
  cases r with
  | nil => exact ⟨fun _ => ⟨rfl, List.nodup_nil⟩, fun _ => rfl⟩
  | cons x r =>
    show (fitsB f [] x && chainFrom f ([] ++ [x]) r) = true ↔ _
    have h1 : fitsB f [] x = true := rfl
    rw [h1, Bool.true_and]
    exact chainFrom_iff f r [] x List.nodup_nil (by simp)
/-! ### the lists between the separators -/
def sep : List (List Int) → List Int → List Int → List (List Int)
  | lists, cur, [] => lists ++ [cur]
  | lists, cur, x :: r => if x = -1 then sep (lists ++ [cur]) [] r else sep lists (cur ++ [x]) r
theorem split_ne : ∀ ns : List Int, Sr115.splitChains ns ≠ []
  | [] => by simp [Sr115.splitChains]
  | x :: r => by
    unfold Sr115.splitChains
    split
    · simp
    · split <;> simp
theorem sep_eq : ∀ (ns cur : List Int) (lists : List (List Int)), ∃ r rs, Sr115.splitChains ns = r :: rs ∧ sep lists cur ns = lists ++ (cur ++ r) :: rs
  | [], cur, lists => ⟨[], [], rfl, by rw [List.append_nil]; rfl⟩
  | x :: ns, cur, lists => by
    by_cases c : x = -1
    · obtain ⟨r, rs, h1, h2⟩ := sep_eq ns [] (lists ++ [cur])
      refine ⟨[], r :: rs, ?_, ?_⟩
      · unfold Sr115.splitChains
        rw [if_pos c, h1]
      · show (if x = -1 then sep (lists ++ [cur]) [] ns else _) = _
        rw [if_pos c, h2, List.append_nil, List.append_assoc]
        rfl
    · obtain ⟨r, rs, h1, h2⟩ := sep_eq ns (cur ++ [x]) lists
      refine ⟨x :: r, rs, ?_, ?_⟩
      · unfold Sr115.splitChains
        rw [if_neg c, h1]
      · show (if x = -1 then _ else sep lists (cur ++ [x]) ns) = _
        rw [if_neg c, h2, List.append_assoc]
        rfl
theorem sep_split (ns : List Int) : sep [] [] ns = Sr115.splitChains ns := by
  obtain ⟨r, rs, h1, h2⟩ := sep_eq ns [] []
  rw [h1, h2]
  rfl
theorem split_flat : ∀ ns : List Int, (Sr115.splitChains ns).flatten = ns.filter fun x => x != -1
  | [] => rfl
  | x :: ns => by
    by_cases c : x = -1
    · unfold Sr115.splitChains
      rw [if_pos c, List.flatten_cons, split_flat ns, c]
      rfl
    · have ih := split_flat ns
      unfold Sr115.splitChains
      rw [if_neg c, List.filter_cons_of_pos (by simpa using c)]
      cases e : Sr115.splitChains ns with
      | nil => exact absurd e (split_ne ns)
      | cons r rs =>
        rw [e] at ih
        show (x :: r) ++ rs.flatten = _
        rw [← ih]
        rfl
theorem perm_of_sub : ∀ (l m : List Nat), l.Nodup → (∀ x ∈ l, x ∈ m) → m.length ≤ l.length → l.Perm m
  | [], m, _, _, h => by
    have e : m = [] := List.eq_nil_of_length_eq_zero (Nat.le_zero.mp h)
    rw [e]
  | x :: l, m, nd, hs, h => by
    have hx : x ∈ m := hs x List.mem_cons_self
    obtain ⟨h1, h2⟩ := List.nodup_cons.mp nd
    have ih := perm_of_sub l (m.erase x) h2 (fun y hy => (List.mem_erase_of_ne (show y ≠ x from fun e => h1 (by rw [← e]; exact hy))).mpr (hs y (List.mem_cons_of_mem _ hy))) (by
      rw [List.length_erase_of_mem hx]
      rw [List.length_cons] at h
      omega)
    exact (ih.cons x).trans (List.perm_cons_erase hx).symm
/-- held_each_piece_once -/
def holdsB (n : Nat) (ns : List Int) : Bool := (ns.filter fun x => x != -1).isPerm ((List.range n).map fun (k : Nat) => (k : Int))
def laysB (f : Floor) (ns : List Int) : Bool := ((Sr115.splitChains ns).all fun r => !decide (r = []) && chainB f (SrCommon.intsToNats r)) && holdsB f.length ns
theorem flat_nats (ns : List Int) : ((Sr115.splitChains ns).map SrCommon.intsToNats).flatten = (ns.filter fun x => x != -1).map Int.toNat := by
  rw [← split_flat]
  exact (List.map_flatten).symm
theorem holds_iff (n : Nat) (ns : List Int) (h : ∀ x ∈ ns, x = -1 ∨ (0 ≤ x ∧ x < n)) : holdsB n ns = true ↔ ((ns.filter fun x => x != -1).map Int.toNat).Nodup ∧ ((ns.filter fun x => x != -1).map Int.toNat).length = n := by
  unfold holdsB
  rw [List.isPerm_iff]
  have hb : ∀ x ∈ ns.filter (fun x => x != -1), 0 ≤ x ∧ x < n := fun x hx => by
    obtain ⟨h1, h2⟩ := List.mem_filter.mp hx
    exact (h x h1).resolve_left (by simpa using h2)
  generalize hl : (ns.filter fun x => x != -1) = l at hb
  have back : (l.map Int.toNat).map (fun (k : Nat) => (k : Int)) = l := by
    rw [List.map_map]
    conv => rhs; rw [← List.map_id l]
    refine List.map_congr_left fun x hx => ?_
    have := hb x hx
    show ((x.toNat : Nat) : Int) = x
    omega
  constructor
  · intro hp
    have h2 := hp.map Int.toNat
    rw [List.map_map] at h2
    have e : (List.range n).map (Int.toNat ∘ fun (k : Nat) => (k : Int)) = List.range n := by
      conv => rhs; rw [← List.map_id (List.range n)]
      rfl
    rw [e] at h2
    exact ⟨h2.nodup_iff.mpr List.nodup_range, by rw [h2.length_eq, List.length_range]⟩
  · rintro ⟨h1, h2⟩
    have hp : (l.map Int.toNat).Perm (List.range n) := perm_of_sub _ _ h1 (fun x hx => by
      obtain ⟨y, hy, rfl⟩ := List.mem_map.mp hx
      have := hb y hy
      exact List.mem_range.mpr (by omega)) (by rw [h2, List.length_range]; exact Nat.le_refl _)
    have h3 := hp.map fun (k : Nat) => (k : Int)
    rw [back] at h3
    exact h3
theorem nodup_part {l : List Nat} : ∀ {L : List (List Nat)}, l ∈ L → L.flatten.Nodup → l.Nodup
  | r :: L, h, nd => by
    rw [List.flatten_cons, List.nodup_append] at nd
    rcases List.mem_cons.mp h with e | h
    · rw [e]
      exact nd.1
    · exact nodup_part h nd.2.1
theorem split_mem : ∀ (ns r : List Int), r ∈ Sr115.splitChains ns → ∀ x ∈ r, x ∈ ns ∧ x ≠ -1 := fun ns r hr x hx => by
  have h : x ∈ (Sr115.splitChains ns).flatten := List.mem_flatten.mpr ⟨r, hr, hx⟩
  rw [split_flat] at h
  obtain ⟨h1, h2⟩ := List.mem_filter.mp h
  exact ⟨h1, by simpa using h2⟩
theorem lays_eq (f : Floor) (ns : List Int) (h : ∀ x ∈ ns, x = -1 ∨ (0 ≤ x ∧ x < f.length)) : laysB f ns = Sr115.areChains f ((Sr115.splitChains ns).map SrCommon.intsToNats) := by
  unfold laysB Sr115.areChains
  rw [Bool.eq_iff_iff, Bool.and_eq_true, Bool.and_eq_true, Bool.and_eq_true, holds_iff f.length ns h, flat_nats, decide_eq_true_eq, decide_eq_true_eq, List.all_map, List.all_eq_true, List.all_eq_true]
  constructor
  · rintro ⟨h1, h2, h3⟩
    refine ⟨fun r hr => ?_, h2, h3⟩
    have q := h1 r hr
    rw [Bool.and_eq_true, chainB_iff] at q
    obtain ⟨q1, q2, q3⟩ := q
    show ((r.map Int.toNat) != [] && (Sr115.isChain f (r.map Int.toNat) && (r.map Int.toNat).all fun i => decide (i < f.length))) = true
    rw [Bool.and_eq_true, Bool.and_eq_true, List.all_eq_true]
    refine ⟨?_, q2, fun x hx => ?_⟩
    · cases r with
      | nil => cases q1
      | cons y s => rfl
    · obtain ⟨y, hy, rfl⟩ := List.mem_map.mp hx
      obtain ⟨m1, m2⟩ := split_mem ns r hr y hy
      have := (h y m1).resolve_left m2
      exact decide_eq_true (by omega)
  · rintro ⟨h1, h2, h3⟩
    refine ⟨fun r hr => ?_, h2, h3⟩
    have q : ((r.map Int.toNat) != [] && (Sr115.isChain f (r.map Int.toNat) && (r.map Int.toNat).all fun i => decide (i < f.length))) = true := h1 r hr
    rw [Bool.and_eq_true, Bool.and_eq_true] at q
    obtain ⟨q1, q2, q3⟩ := q
    rw [Bool.and_eq_true, chainB_iff]
    refine ⟨?_, q2, ?_⟩
    · cases r with
      | nil => cases q1
      | cons y s => rfl
    · refine nodup_part (L := (Sr115.splitChains ns).map SrCommon.intsToNats) (List.mem_map.mpr ⟨r, hr, rfl⟩) ?_
      rw [flat_nats]
      exact h2
end BB
namespace BB
open PySem PySem.Spec PyProof.Rows L2 Evl
open Sr115 (Floor pieceAt)
section
variable {P : Program} {w : World} {K : PySem.W.Frag} {mg : Str → Option Value} {base : Heap}
/-! ### begins_with -/
abbrev s_begins_with : Stmt := topS 5
theorem sc_begins_with : FnScope ["pieces", "laid", "mark"] ["pieces", "laid", "mark"] (defScope s_begins_with) := ⟨rfl, rfl, rfl, by decide +kernel, rfl, by decide +kernel, by decide +kernel⟩

structure Beg where
  a : Addr
  b : Addr
  f : Floor
  r : List Nat
  m : Nat
def preBeg (x : Beg) (H : Hp) : Prop := Fl H x.a x.f ∧ SqL K H x.b (iV (nI x.r)) ∧ ∀ j ∈ x.r, j < x.f.length
theorem mono_beg : Mono (preBeg (K := K)) := fun x H H' e h => ⟨h.1.mono e, ex_l e h.2.1, h.2.2⟩
def spBeg (K : PySem.W.Frag) : Sp := SV (fun x : Beg => [.ref x.a, .ref x.b, .int (x.m : Int)]) (preBeg (K := K)) (fun x => .bl (beginsB x.f x.m x.r))
theorem ok_begins (F : Top K mg "begins_with" s_begins_with ["pieces", "laid", "mark"]) (T : Txt K mg) : Def P w K mg base "begins_with" 1 ["pieces", "laid", "mark"] (spBeg K) := by
  refine Def.of F sc_begins_with (fun vs H Q E h => ?_) (fun ff cdv A outer s H vs Q E hr h => ?_)
  · obtain ⟨x, rfl, _⟩ := h
    rfl
  · obtain ⟨⟨a, b, f, r, m⟩, rfl, ⟨hF, hb, hl⟩, k⟩ := h
    refine ⟨_, (pss_one (ps_ret (pe_and (pe_cmpR op_gt (pe_callB call_len_seq (by rfl) T.len PySem.boot_len (pa_cons (pv 1) pa_nil)) pe_int (nomark _)) (pe_one (pe_cmpR op_eq (pe_ix (ix_tupK (K := K)) (pe_ix (ix_listK (K := K)) (pv 0) (pe_ix (ix_listK (K := K)) (pv 1) pe_int (fun _ _ => rfl)) (fun _ _ => rfl)) pe_int (fun _ _ => rfl)) (pv 2) (nomark _)))))), ?_⟩
    refine s_ret (v := .bl (beginsB f m r)) ?_ fun H2 e2 => k H2 e2
    cases r with
    | nil =>
      refine ev_is (ev_andV (a := false) (b := false) (ev_is (ev_op (ev_len (ev_var rfl) hb) ev_c rv_I0) rfl) (fun z => by cases z)) rfl
    | cons i r =>
      have hi : i < f.length := hl i List.mem_cons_self
      refine ev_is (ev_andV (a := true) (ev_is (ev_op (ev_len (ev_var rfl) hb) ev_c rv_I0) ?_) (fun _ => ev_op (ev_left (ev_var rfl) hF (ev_op (ev_var rfl) ev_c (rv_ixL hb (atI_nat (j := 0) rfl))) hi) (ev_var rfl) (rv_eq rfl))) ?_
      · refine congrArg V.bl (decide_eq_true ?_)
        rw [iV_len, nI_len, List.length_cons]
        omega
      · refine congrArg V.bl ?_
        rw [dec_nat, Bool.true_and]
        rfl
/-! ### closes -/
abbrev s_closes : Stmt := topS 6
theorem sc_closes : FnScope ["pieces", "laid"] ["pieces", "laid"] (defScope s_closes) := ⟨rfl, rfl, rfl, by decide +kernel, rfl, by decide +kernel, by decide +kernel⟩

structure Cl where
  a : Addr
  b : Addr
  f : Floor
  r : List Nat
def preCl (x : Cl) (H : Hp) : Prop := Fl H x.a x.f ∧ SqL K H x.b (iV (nI x.r)) ∧ ∀ j ∈ x.r, j < x.f.length
theorem mono_cl : Mono (preCl (K := K)) := fun x H H' e h => ⟨h.1.mono e, ex_l e h.2.1, h.2.2⟩
def spCl (K : PySem.W.Frag) : Sp := SV (fun x : Cl => [.ref x.a, .ref x.b]) (preCl (K := K)) (fun x => .bl (closesB x.f x.r))
theorem ok_closes (F : Top K mg "closes" s_closes ["pieces", "laid"]) (T : Txt K mg) : Def P w K mg base "closes" 1 ["pieces", "laid"] (spCl K) := by
  refine Def.of F sc_closes (fun vs H Q E h => ?_) (fun ff cdv A outer s H vs Q E hr h => ?_)
  · obtain ⟨x, rfl, _⟩ := h
    rfl
  · obtain ⟨⟨a, b, f, r⟩, rfl, ⟨hF, hb, hl⟩, k⟩ := h
    refine ⟨_, (pss_cons (ps_if (PW.pt (pw_or (pt_cmpR op_eq (pe_callB call_len_seq (by rfl) T.len PySem.boot_len (pa_cons (pv 1) pa_nil)) pe_int (nomark _)) (pw_or1 (pt_cmpR op_ne (pe_ix (ix_listK (K := K)) (pv 1) pe_int (fun _ _ => rfl)) pe_int (nomark _))))) (pss_one (ps_ret pe_bl)) pss_nil)
      (pss_one (ps_ret (pe_cmpR op_eq (pe_ix (ix_tupK (K := K)) (pe_ix (ix_listK (K := K)) (pv 0) (pe_ix (ix_listK (K := K)) (pv 1) (pe_un un_neg pe_int) (fun _ _ => rfl)) (fun _ _ => rfl)) pe_int (fun _ _ => rfl)) (pe_ix (ix_tupK (K := K)) (pe_ix (ix_listK (K := K)) (pv 0) pe_int (fun _ _ => rfl)) pe_int (fun _ _ => rfl)) (nomark _))))), ?_⟩
    cases r with
    | nil =>
      refine q_when (b := true) (et_is (et_or (a := true) (b := true) (et_test (ev_is (ev_op (ev_len (ev_var rfl) hb) ev_c (rv_eq rfl)) rfl)) (fun z => by cases z)) rfl) (fun _ H1 e1 => ?_) (fun z => by cases z)
      exact s_ret ev_c fun H2 e2 => k H2 (e1.trans e2)
    | cons i r =>
      have hi : i < f.length := hl i List.mem_cons_self
      refine q_when (b := !(i == 0)) (et_is (et_or (a := false) (b := !(i == 0)) (et_test (ev_is (ev_op (ev_len (ev_var rfl) hb) ev_c (rv_eq rfl)) ?_)) (fun _ => et_test (ev_is (ev_op (ev_op (ev_var rfl) ev_c (rv_ixL hb (atI_nat (j := 0) rfl))) ev_c (rv_ne rfl)) ?_))) (Bool.false_or _)) (fun c H1 e1 => ?_) (fun c H1 e1 => ?_)
      · refine congrArg V.bl ?_
        rw [iV_len, nI_len, List.length_cons]
        exact decide_eq_false (fun z => by
          have z' := V.int.inj z
          omega)
      · exact congrArg (fun z => V.bl (!z)) (dec_nat i 0)
      · refine s_ret ev_c fun H2 e2 => ?_
        have e : closesB f (i :: r) = false := by
          show ((i == 0) && _) = false
          rw [show (i == 0) = false by simpa using c]
          rfl
        exact e ▸ k H2 (e1.trans e2)
      · have c0 : i = 0 := by simpa using c
        have h0 : 0 < f.length := by omega
        refine s_ret (ev_is (ev_op (ev_right (ev_var rfl) (hF.mono e1) (ev_op (ev_var rfl) (ev_un ev_c ru_neg) (rv_ixL (ex_l e1 hb) (at_last (by simp)))) (hl _ (last_mem (by simp)))) (ev_left (i := 0) (ev_var rfl) (hF.mono e1) ev_c h0) (rv_eq rfl)) (congrArg V.bl (dec_nat _ _))) fun H2 e2 => ?_
        have e : closesB f (i :: r) = ((pieceAt f ((i :: r).getLastD 0)).right == (pieceAt f 0).left) := by
          show ((i == 0) && _) = _
          rw [c0]
          rfl
        exact e ▸ k H2 (e1.trans e2)
/-! ### circuits -/
abbrev s_circuits : Stmt := topS 7
theorem sc_circuits : FnScope ["pieces", "laid"] ["pieces"] (defScope s_circuits) := ⟨rfl, rfl, rfl, by decide +kernel, rfl, by decide +kernel, by decide +kernel⟩

def spCircuits : Sp := SB (fun x : PF => [.ref x.a]) preF lstO (fun x => (Sr115.circuits x.f).map nI)
theorem eb_map_filter {o : List Int → HO} {te : TE} {σ : L2.St} {H : Hp} (l : List (List Nat)) (b : List Nat → Bool) (B : List Int → Bool) (hB : ∀ r, B (nI r) = b r) (h : EvB o te σ H ((l.map nI).filter B)) : EvB o te σ H ((l.filter b).map nI) := by
  have e : (l.map nI).filter B = (l.filter b).map nI := by
    rw [List.filter_map]
    congr 2
    funext r
    exact hB r
  rw [← e]
  exact h
theorem toNats_nI (r : List Nat) : SrCommon.intsToNats (nI r) = r := by
  unfold SrCommon.intsToNats nI
  rw [List.map_map]
  conv => rhs; rw [← List.map_id r]
  rfl
theorem ok_circuits (F : Top K mg "circuits" s_circuits ["pieces"]) (T : Txt K mg) (D_complete_chains : Def P w K mg base "complete_chains" 3 ["pieces"] spComplete) (D_closes : Def P w K mg base "closes" 1 ["pieces", "laid"] (spCl K)) :
    Def P w K mg base "circuits" 4 ["pieces"] spCircuits := by
  refine Def.of F sc_circuits (fun vs H Q E h => ?_) (fun ff cdv A outer s H vs Q E hr h => ?_)
  · obtain ⟨x, rfl, _⟩ := h
    rfl
  · obtain ⟨⟨a, f⟩, rfl, ⟨hF, hk⟩, k⟩ := h
    replace hF : Fl H a f := hF
    replace hk : Fok f := hk
    replace k : RetB lstO ((Sr115.circuits f).map nI) H Q := k
    refine ⟨_, (pss_one (ps_ret (pe_lc (own := [("laid", 1)]) (g := gName 1) rfl sc_circuits.nd (pi_listK (K := K) (pe_callD D_complete_chains (hr.mono (by decide)) rfl (pa_cons (pv 0) pa_nil))) (blkOk_by (N := ["pieces", "laid"]) (sc := defScope s_circuits) (by decide +kernel)) (fun _ _ _ _ _ => pg_name (i := 1) sc_circuits.nd rfl (Or.inl rfl)) (fun _ _ _ _ _ => (pts_one (pt_val (pe_callD D_closes (hr.mono (by decide)) rfl (pa_cons (pv 0) (pa_cons (pv 1) pa_nil)))))) (fun _ _ _ _ _ => (pv 1))))), ?_⟩
    rw [circuits_eq] at k
    refine s_retB (eb_map_filter (Sr115.completeChains f) (closesB f) (fun r => closesB f (SrCommon.intsToNats r)) (fun r => by rw [toNats_nI]) (eb_lcB (o := lstO) ((Sr115.completeChains f).map nI) (fun r => closesB f (SrCommon.intsToNats r)) (eb_SB mono_F ⟨a, f⟩ (ea_cons (ev_var rfl) ea_nil) ⟨hF, hk⟩) ?_ (fun _ => rfl) (fun q x H1 e1 hx hq => ?_) (fun q H1 => ev_var rfl))) fun p H1 hp e1 hO => k p H1 hp e1 hO
    · rw [List.length_map]
      exact Nat.le_trans (complete_len hk.1) (by decide)
    · obtain ⟨r, hr, rfl⟩ := List.mem_map.mp hx
      rw [toNats_nI]
      exact et_B (ev_SV mono_cl ⟨a, q, f, r⟩ (ea_cons (ev_var rfl) (ea_cons (ev_var rfl) ea_nil)) ⟨hF.mono e1, sq_of hq, (complete_row hr).2⟩)
end
end BB
namespace BB
open PySem PySem.Spec PyProof.Rows L2 Evl
open Sr115 (Floor pieceAt)
section
variable {P : Program} {w : World} {K : PySem.W.Frag} {mg : Str → Option Value} {base : Heap}
/-! ### is_chain -/
abbrev s_is_chain : Stmt := topS 8
theorem sc_is_chain : FnScope ["pieces", "numbers", "n"] ["pieces", "numbers"] (defScope s_is_chain) := ⟨rfl, rfl, rfl, by decide +kernel, rfl, by decide +kernel, by decide +kernel⟩

structure IsCh where
  a : Addr
  b : Addr
  f : Floor
  r : List Nat
def preIsCh (x : IsCh) (H : Hp) : Prop := Fl H x.a x.f ∧ SqL K H x.b (iV (nI x.r)) ∧ (∀ j ∈ x.r, j < x.f.length) ∧ x.r.length ≤ 70
theorem mono_isCh : Mono (preIsCh (K := K)) := fun x H H' e h => ⟨h.1.mono e, ex_l e h.2.1, h.2.2⟩
def spIsCh (K : PySem.W.Frag) : Sp := SV (fun x : IsCh => [.ref x.a, .ref x.b]) (preIsCh (K := K)) (fun x => .bl (chainB x.f x.r))
theorem all_map_id (n : Nat) (p : Nat → Bool) : ((List.range n).map p).all id = (List.range n).all p := by
  rw [List.all_map]
  rfl
theorem ok_is_chain (F : Top K mg "is_chain" s_is_chain ["pieces", "numbers"]) (T : Txt K mg) (D_fits_behind : Def P w K mg base "fits_behind" 1 ["pieces", "laid", "i"] (spFits K)) : Def P w K mg base "is_chain" 2 ["pieces", "numbers"] (spIsCh K) := by
  refine Def.of F sc_is_chain (fun vs H Q E h => ?_) (fun ff cdv A outer s H vs Q E hr h => ?_)
  · obtain ⟨x, rfl, _⟩ := h
    rfl
  · obtain ⟨⟨a, b, f, r⟩, rfl, ⟨hF, hb, hl, h70⟩, k⟩ := h
    replace hF : Fl H a f := hF
    replace hb : SqL K H b (iV (nI r)) := hb
    replace hl : ∀ j ∈ r, j < f.length := hl
    replace h70 : r.length ≤ 70 := h70
    refine ⟨_, (pss_one (ps_ret (pe_callB (cr_allK (K := K) rfl) (by rfl) T.all (by decide +kernel) (pa_cons (pe_lc (own := [("n", 2)]) (g := gName 2) rfl sc_is_chain.nd (pi_range1 rfl T.range (pa_cons (pe_callB call_len_seq (by rfl) T.len PySem.boot_len (pa_cons (pv 1) pa_nil)) pa_nil)) (blkOk_by (N := ["pieces", "numbers", "n"]) (sc := defScope s_is_chain) (by decide +kernel)) (fun _ _ _ _ _ => pg_name (i := 2) sc_is_chain.nd rfl (Or.inl rfl)) (fun _ _ _ _ _ => pts_nil) (fun _ _ _ _ _ => (pe_callD D_fits_behind (hr.mono (by decide)) rfl (pa_cons (pv 0) (pa_cons (pe_slice (sl_listK (K := K)) (pv 1) po_none (po_some (pv 2))) (pa_cons (pe_ix (ix_listK (K := K)) (pv 1) (pv 2) (fun _ _ => rfl)) pa_nil)))))) pa_nil)))), ?_⟩
    have e0 : (((List.range r.length).filter fun _ => true).map fun n => V.bl (fitsB f (r.take n) (r.getD n 0))) = ((List.range r.length).map fun n => fitsB f (r.take n) (r.getD n 0)).map V.bl := by
      rw [List.filter_eq_self.mpr fun _ _ => rfl, List.map_map]
      rfl
    refine s_ret (v := .bl (chainB f r)) (ev_is (ev_all (bs := (List.range r.length).map fun n => fitsB f (r.take n) (r.getD n 0)) (e0 ▸ el_lcR (n := r.length) (fun _ => true) (fun n => V.bl (fitsB f (r.take n) (r.getD n 0))) (ea_cons (ev_is (ev_len (ev_var rfl) hb) ?_) ea_nil) (by omega) (fun _ => rfl) (fun i H1 e1 hi => et_yes rfl) (fun i H1 e1 hi _ => ?_))) (congrArg V.bl (all_map_id _ _))) fun H2 e2 => k H2 e2
    · rw [iV_len, nI_len]
    · have hri : r[i]? = some (r.getD i 0) := by
        rw [List.getD_eq_getElem?_getD, List.getElem?_eq_getElem hi]
        rfl
      refine ev_SVP (eap_cons (ev_var rfl) (eap_consL (el_sl (ev_var rfl) eo_none (eo_some (ev_var rfl)) (ex_l e1 hb)) (eap_cons (ev_op (ev_var rfl) (ev_var rfl) (rv_ixL (ex_l e1 hb) (atI_nat (iV_get (nI_get hri))))) eap_nil))) fun vs H2 e2 hp => ?_
      obtain ⟨_, rfl, p, _, rfl, hp1, _, rfl, rfl⟩ := hp
      refine ⟨⟨a, p, f, r.take i, r.getD i 0⟩, rfl, ⟨(hF.mono e1).mono e2, ?_, fun j hj => hl j (List.mem_of_mem_take hj), hl _ (List.mem_of_getElem? hri)⟩, rfl⟩
      rw [cut_take, iV_take, nI_take] at hp1
      exact sq_of hp1
/-! ### separated_lists -/
abbrev s_separated_lists : Stmt := topS 9
theorem sc_separated_lists : FnScope ["numbers", "lists", "current", "number"] ["numbers"] (defScope s_separated_lists) := ⟨rfl, rfl, rfl, by decide +kernel, rfl, by decide +kernel, by decide +kernel⟩

structure Ns where
  b : Addr
  ns : List Int
def preNs (x : Ns) (H : Hp) : Prop := SqL K H x.b (iV x.ns) ∧ x.ns.length ≤ 70
theorem mono_ns : Mono (preNs (K := K)) := fun x H H' e h => ⟨ex_l e h.1, h.2⟩
def spSep (K : PySem.W.Frag) : Sp := SB (fun x : Ns => [.ref x.b]) (preNs (K := K)) lstO (fun x => Sr115.splitChains x.ns)
theorem ok_sep (F : Top K mg "separated_lists" s_separated_lists ["numbers"]) (T : Txt K mg) : Def P w K mg base "separated_lists" 1 ["numbers"] (spSep K) := by
  refine Def.of F sc_separated_lists (fun vs H Q E h => ?_) (fun ff cdv A outer s H vs Q E hr h => ?_)
  · obtain ⟨x, rfl, _⟩ := h
    rfl
  · obtain ⟨⟨b, ns⟩, rfl, ⟨hb, h70⟩, k⟩ := h
    replace hb : SqL K H b (iV ns) := hb
    replace h70 : ns.length ≤ 70 := h70
    replace k : RetB lstO (Sr115.splitChains ns) H Q := k
    obtain ⟨_, g_SEPARATOR⟩ := T.c_SEPARATOR
    
    refine ⟨_, (pss_cons (ps_set (i := 1) sc_separated_lists.nd rfl (Or.inl rfl) (pe_lst pa_nil))
      (pss_cons (ps_set (i := 2) sc_separated_lists.nd rfl (Or.inl rfl) (pe_lst pa_nil))
      (pss_cons (ps_for PassesOwn.never rfl (pi_listK (K := K) (pv 0)) (pg_name (i := 3) sc_separated_lists.nd rfl (Or.inl rfl)) (pss_one (ps_if (pt_cmpR op_eq (pv 3) (pe_glob (v := .int (-1)) rfl g_SEPARATOR ⟨_, rfl⟩) (nomark _)) (pss_cons (ps_expr (pe_bm PySem.F.plainAttrs_list PySem.F.slot_list_append PySem.F.type_list_append mt_append (pv 1) (pa_cons (pv 2) pa_nil)))
      (pss_one (ps_set (i := 2) sc_separated_lists.nd rfl (Or.inl rfl) (pe_lst pa_nil)))) (pss_one (ps_expr (pe_bm PySem.F.plainAttrs_list PySem.F.slot_list_append PySem.F.type_list_append mt_append (pv 2) (pa_cons (pv 3) pa_nil)))))))
      (pss_one (ps_ret (pe_op op_cat (pv 1) (pe_lst (pa_cons (pv 2) pa_nil)))))))), ?_⟩
    refine q_asgL (el_lst ea_nil (by decide)) fun p H1 hp e1 h1 => ?_
    refine q_asgL (el_lst ea_nil (by decide)) fun c H2 hc e2 h2 => ?_
    have hpc : p ≠ c := ne_of_none h1 hc
    refine q_forLn (xs := iV ns) (ev_var rfl) (ex_l (e1.trans e2) hb) (fun i σ' H' => ∃ v3 c zs cur, σ' = [some (.ref b), some (.ref p), some (.ref c), v3] ∧ Ex H H' ∧ H' p = some (.lst (refs zs)) ∧ (∀ z ∈ zs, H' z.1 = some (lstO z.2) ∧ z.1 ≠ c) ∧ H' c = some (lstO cur) ∧ p ≠ c ∧ H c = none ∧ zs.length ≤ i ∧ cur.length ≤ i ∧
        sep (zs.map (·.2)) cur (ns.drop i) = Sr115.splitChains ns)
      (fun H3 e3 => ⟨none, c, [], [], rfl, (e1.trans e2).trans e3, (e2.trans e3) _ _ h1, (fun z hz => by cases hz), e3 _ _ h2, hpc, fresh_back e1 hc, Nat.le_refl _, Nat.le_refl _, sep_split ns⟩) (fun i σ' H' _ hP => ?_) (fun i x σ' H' hx hP => ?_) (fun σ' H' hP => ?_)
    · obtain ⟨_, _, _, _, _, ee, _⟩ := hP
      exact ex_l ee hb
    · obtain ⟨v3, c, zs, cur, rfl, ee, g1, g2, g3, hpc, hcn, l1, l2, hs⟩ := hP
      obtain ⟨n, hn, rfl⟩ : ∃ n, ns[i]? = some n ∧ x = V.int n := by
        unfold iV at hx
        rw [List.getElem?_map] at hx
        cases hq : ns[i]? with
        | none => rw [hq] at hx; cases hx
        | some z =>
          rw [hq] at hx
          exact ⟨z, rfl, (Option.some.inj hx).symm⟩
      have hi : i < ns.length := (List.getElem?_eq_some_iff.mp hn).1
      have hd : ns.drop i = n :: ns.drop (i + 1) := by
        rw [List.drop_eq_getElem_cons hi, (List.getElem?_eq_some_iff.mp hn).2]
      rw [hd] at hs
      refine s_if (b := n == -1) (et_test (ev_is (ev_op (ev_var rfl) ev_c (rv_eq rfl)) (congrArg V.bl dec_int))) (fun cc H3 e3 => ?_) (fun cc H3 e3 => ?_)
      · have hn1 : n = -1 := by simpa using cc
        have hs' : sep (zs.map (·.2) ++ [cur]) [] (ns.drop (i + 1)) = Sr115.splitChains ns := by
          rw [← hs]
          show _ = if n = -1 then _ else _
          rw [if_pos hn1]
        refine q_app (e3 _ _ g1) (ev_var rfl) (ev_var rfl) ?_ fun H4 e4 => ?_
        · unfold refs
          rw [List.length_map]
          omega
        · have e34 := e3.trans e4
          have ne1 : ∀ z ∈ zs, z.1 ≠ p := Objs.ne sep_lst g1 fun z hz => (g2 z hz).1
          refine s_asgL (el_lst ea_nil (by decide)) fun d H5 hd5 e5 h5 => ?_
          have hO := Objs.app (x := cur) sep_lst g1 (fun z hz => (g2 z hz).1) e34 (e34 _ _ g3) hpc.symm
          have hpd : p ≠ d := fun z => by
            rw [← z, upd_same] at hd5
            cases hd5
          have hup : Ex H (upd H4 p (.lst (refs zs ++ [.ref c]))) := Ex.mut (ee.trans e34) hp
          refine ⟨_, d, zs ++ [(c, cur)], [], rfl, hup.trans e5, ?_, fun z hz => ?_, h5, hpd, fresh_back hup hd5, ?_, Nat.zero_le _, ?_⟩
          · refine e5 _ _ (upd_same.trans ?_)
            unfold refs
            rw [List.map_append]
            rfl
          · have old : (upd H4 p (.lst (refs zs ++ [.ref c]))) z.1 = some (lstO z.2) := by
              rcases List.mem_append.mp hz with hz | hz
              · rw [upd_ne (ne1 z hz)]
                exact e34 _ _ (g2 z hz).1
              · rw [List.mem_singleton] at hz
                subst hz
                rw [upd_ne hpc.symm]
                exact e34 _ _ g3
            exact ⟨e5 _ _ old, ne_of_none old hd5⟩
          · rw [List.length_append]
            show zs.length + 1 ≤ i + 1
            omega
          · rw [List.map_append]
            exact hs'
      · have hn1 : ¬ n = -1 := by simpa using cc
        have hs' : sep (zs.map (·.2)) (cur ++ [n]) (ns.drop (i + 1)) = Sr115.splitChains ns := by
          rw [← hs]
          show _ = if n = -1 then _ else _
          rw [if_neg hn1]
        refine s_app (e3 _ _ g3) (ev_var rfl) (ev_var rfl) ?_ fun H4 e4 => ?_
        · rw [iV_len]
          omega
        · have e34 := e3.trans e4
          refine ⟨_, c, zs, cur ++ [n], rfl, Ex.mut (ee.trans e34) hcn, ?_, fun z hz => ⟨?_, (g2 z hz).2⟩, ?_, hpc, hcn, by omega, ?_, hs'⟩
          · rw [upd_ne hpc]
            exact e34 _ _ g1
          · rw [upd_ne (g2 z hz).2]
            exact e34 _ _ (g2 z hz).1
          · rw [upd_same]
            unfold lstO
            rw [iV_app]
            rfl
          · rw [List.length_append]
            show cur.length + 1 ≤ i + 1
            omega
    · obtain ⟨v3, c, zs, cur, rfl, ee, g1, g2, g3, hpc, hcn, l1, l2, hs⟩ := hP
      rw [iV_len] at l1 l2 hs
      rw [List.drop_length] at hs
      refine s_retL (el_cat (es_ref (ev_var rfl) g1) (es_L (el_lst (ea_cons (ev_var rfl) ea_nil) (by show 1 ≤ 100000; decide))) ?_) fun q H3 hq e3 h3 => k q H3 (fresh_back ee hq) (ee.trans e3) ⟨zs ++ [(c, cur)], ?_, ?_, fun z hz => ?_⟩
      · unfold refs
        rw [List.length_map]
        show zs.length + 1 ≤ 10000000
        omega
      · rw [h3]
        unfold refs
        rw [List.map_append]
        rfl
      · rw [List.map_append, ← hs]
        rfl
      · rcases List.mem_append.mp hz with hz | hz
        · exact e3 _ _ (g2 z hz).1
        · rw [List.mem_singleton] at hz
          subst hz
          exact e3 _ _ g3
/-! ### holds_each_piece_once -/
abbrev s_holds_each_piece_once : Stmt := topS 10
theorem sc_holds_each_piece_once : FnScope ["pieces", "numbers", "held", "number"] ["pieces", "numbers"] (defScope s_holds_each_piece_once) := ⟨rfl, rfl, rfl, by decide +kernel, rfl, by decide +kernel, by decide +kernel⟩

structure Hol where
  a : Addr
  b : Addr
  f : Floor
  ns : List Int
def preHol (x : Hol) (H : Hp) : Prop := Fl H x.a x.f ∧ SqL K H x.b (iV x.ns) ∧ x.f.length ≤ 7 ∧ x.ns.length ≤ 70
theorem mono_hol : Mono (preHol (K := K)) := fun x H H' e h => ⟨h.1.mono e, ex_l e h.2.1, h.2.2⟩
def spHol (K : PySem.W.Frag) : Sp := SV (fun x : Hol => [.ref x.a, .ref x.b]) (preHol (K := K)) (fun x => .bl (holdsB x.f.length x.ns))
theorem sorted_range (n : Nat) : (nI (List.range n)).Pairwise (· ≤ ·) := by
  unfold nI
  rw [List.pairwise_map]
  exact (List.pairwise_lt_range).imp fun h => by omega
theorem ok_holds (F : Top K mg "holds_each_piece_once" s_holds_each_piece_once ["pieces", "numbers"]) (T : Txt K mg) : Def P w K mg base "holds_each_piece_once" 1 ["pieces", "numbers"] (spHol K) := by
  refine Def.of F sc_holds_each_piece_once (fun vs H Q E h => ?_) (fun ff cdv A outer s H vs Q E hr h => ?_)
  · obtain ⟨x, rfl, _⟩ := h
    rfl
  · obtain ⟨⟨a, b, f, ns⟩, rfl, ⟨hF, hb, h7, h70⟩, k⟩ := h
    replace hF : Fl H a f := hF
    replace hb : SqL K H b (iV ns) := hb
    replace h70 : ns.length ≤ 70 := h70
    replace h7 : f.length ≤ 7 := h7
    replace k : RetV (.bl (holdsB f.length ns)) H Q := k
    obtain ⟨_, g_SEPARATOR⟩ := T.c_SEPARATOR
    
    refine ⟨_, (pss_cons (ps_setLc (i := 2) (own := [("number", 3)]) (g := gName 3) rfl sc_holds_each_piece_once.nd rfl rfl (sw_true rfl rfl rfl (by decide +kernel)) (pi_listK (K := K) (pv 1)) (blkOk_by (N := ["pieces", "numbers", "held", "number"]) (sc := defScope s_holds_each_piece_once) (by decide +kernel)) (fun _ _ _ _ _ => pg_name (i := 3) sc_holds_each_piece_once.nd rfl (Or.inl rfl)) (fun _ _ _ _ _ => (pts_one (pt_cmpR op_ne (pv 3) (pe_glob (v := .int (-1)) rfl g_SEPARATOR ⟨_, rfl⟩) (nomark _)))) (fun _ _ _ _ _ => (pv 3)))
      (pss_one (ps_ret (pe_cmpR (op_eqD hr.units) (pe_callB cr_sortedI (by rfl) T.sorted (by decide +kernel) (pa_cons (pv 2) pa_nil)) (pe_listRg rfl rfl T.list (prg_1 rfl T.range (pe_callB call_len_seq (by rfl) T.len PySem.boot_len (pa_cons (pv 0) pa_nil)))) (nomark _))))), ?_⟩
    refine q_asgL (el_lcA ns V.int (fun x => x != -1) V.int (ev_var rfl) hb (by omega) (fun _ => rfl) (fun x H1 e1 hx => et_test (ev_is (ev_op (ev_var rfl) ev_c (rv_ne rfl)) (congrArg (fun z => V.bl (!z)) dec_int))) (fun x H1 e1 hx _ => ev_var rfl)) fun p H1 hp e1 h1 => ?_
    have hF1 := hF.mono e1
    refine s_ret (v := .bl (holdsB f.length ns)) (fun H2 e2 Q q => ?_) fun H2 e2 => k H2 (e1.trans e2)
    refine ⟨.ref p, rfl, p, (ns.filter fun x => x != -1), rfl, sq_of (e2 _ _ h1), fun ns' d hpm hs hd => ?_⟩
    have hd2 := Ex.new (o := .lst (ns'.map V.int)) hd
    refine (el_listRg (H := upd H2 d (.lst (ns'.map V.int))) (ev_lenO (K := K) (ev_var rfl) ((hF1.mono e2).mono hd2)) (by omega)) _ (Ex.refl _) _ fun r H3 hrn e3 h3 => ?_
    rw [rg_iV] at h3
    refine ⟨.list (ns'.map PyData.int), .list ((nI (List.range f.length)).map PyData.int), .lst (sq_of (e3 _ _ upd_same)) (dp_ints ns'), .lst (sq_of h3) (dp_ints _), shaped_ints _, shaped_ints _, ?_⟩
    have e : PyData.eqv (.list (ns'.map PyData.int)) (.list ((nI (List.range f.length)).map PyData.int)) = holdsB f.length ns := by
      show PyData.eqvAll _ _ = _
      rw [eqv_ints, Bool.eq_iff_iff, decide_eq_true_eq]
      unfold holdsB
      rw [List.isPerm_iff]
      constructor
      · intro z
        rw [z] at hpm
        exact hpm.symm
      · intro z
        exact (hpm.trans z).eq_of_pairwise (fun x y _ _ h1 h2 => Int.le_antisymm h1 h2) hs (sorted_range _)
    rw [e]
    exact q H3 (hd2.trans e3)
end
end BB
/-! marks: excesses, components, the fewest chains -/
namespace BB
open Sr115 (Floor pieceAt Piece)
def MEnds (f : Floor) : Prop := ∀ p ∈ f, p.left < 6 ∧ p.right < 6
/-! ### excesses -/
def exAt (f : Floor) (m : Nat) : Int := (Sr115.outDegree f m : Int) - (Sr115.inDegree f m : Int)
def exM (f : Floor) : List Int := (List.range 6).map (exAt f)
theorem out_app (f : Floor) (p : Piece) (m : Nat) : Sr115.outDegree (f ++ [p]) m = Sr115.outDegree f m + if p.left = m then 1 else 0 := by
  unfold Sr115.outDegree
  rw [List.filter_append, List.length_append]
  congr 1
  by_cases c : p.left = m
  · rw [if_pos c, List.filter_cons_of_pos (by simpa using c)]
    rfl
  · rw [if_neg c, List.filter_cons_of_neg (by simpa using c)]
    rfl
theorem in_app (f : Floor) (p : Piece) (m : Nat) : Sr115.inDegree (f ++ [p]) m = Sr115.inDegree f m + if p.right = m then 1 else 0 := by
  unfold Sr115.inDegree
  rw [List.filter_append, List.length_append]
  congr 1
  by_cases c : p.right = m
  · rw [if_pos c, List.filter_cons_of_pos (by simpa using c)]
    rfl
  · rw [if_neg c, List.filter_cons_of_neg (by simpa using c)]
    rfl
theorem exM_get {f : Floor} {m : Nat} (h : m < 6) : (exM f)[m]? = some (exAt f m) := by
  unfold exM
  rw [List.getElem?_map, List.getElem?_range h]
  rfl
theorem exM_len (f : Floor) : (exM f).length = 6 := by
  unfold exM
  rw [List.length_map, List.length_range]
theorem exM_nil : exM [] = List.replicate 6 0 := rfl
/-- the pieces' left ends told -/
def midM (f : Floor) (p : Piece) : List Int := (exM f).set p.left (exAt f p.left + 1)
def midAt (f : Floor) (p : Piece) (m : Nat) : Int := exAt f m + if p.left = m then 1 else 0
theorem mid_get {f : Floor} {p : Piece} {m : Nat} (h : m < 6) : (midM f p)[m]? = some (midAt f p m) := by
  unfold midM midAt
  rw [List.getElem?_set, exM_len, exM_get h]
  by_cases c : p.left = m
  · rw [if_pos c, if_pos c, if_pos (by omega), c]
  · rw [if_neg c, if_neg c, Int.add_zero]
theorem mid_len (f : Floor) (p : Piece) : (midM f p).length = 6 := by
  unfold midM
  rw [List.length_set, exM_len]
theorem ex_app (f : Floor) (p : Piece) : exM (f ++ [p]) = (midM f p).set p.right (midAt f p p.right - 1) := by
  have key : ∀ m, exAt (f ++ [p]) m = midAt f p m - if p.right = m then 1 else 0 := fun m => by
    unfold midAt exAt
    rw [out_app, in_app]
    by_cases c : p.right = m
    · rw [if_pos c, if_pos c]
      by_cases d : p.left = m
      · rw [if_pos d, if_pos d]
        omega
      · rw [if_neg d, if_neg d]
        omega
    · rw [if_neg c, if_neg c]
      by_cases d : p.left = m
      · rw [if_pos d, if_pos d]
        omega
      · rw [if_neg d, if_neg d]
        omega
  apply List.ext_getElem?
  intro m
  by_cases h : m < 6
  · rw [exM_get h, List.getElem?_set, mid_len, mid_get h, key]
    by_cases c : p.right = m
    · rw [if_pos c, if_pos c, if_pos (by omega), c]
    · rw [if_neg c, if_neg c, Int.sub_zero]
  · rw [List.getElem?_eq_none (by rw [exM_len]; omega), List.getElem?_eq_none (by rw [List.length_set, mid_len]; omega)]
/-! ### used marks -/
def usedB (f : Floor) (m : Nat) : Bool := f.any fun p => p.left == m || p.right == m
theorem used_iff (f : Floor) (m : Nat) : usedB f m = true ↔ 0 < Sr115.outDegree f m + Sr115.inDegree f m := by
  unfold usedB Sr115.outDegree Sr115.inDegree
  rw [List.any_eq_true]
  constructor
  · rintro ⟨p, hp, h⟩
    rw [Bool.or_eq_true] at h
    rcases h with h | h
    · have : 0 < (f.filter fun p => p.left == m).length := List.length_pos_of_mem (List.mem_filter.mpr ⟨hp, h⟩)
      omega
    · have : 0 < (f.filter fun p => p.right == m).length := List.length_pos_of_mem (List.mem_filter.mpr ⟨hp, h⟩)
      omega
  · intro h
    by_cases c : 0 < (f.filter fun p => p.left == m).length
    · obtain ⟨p, hp⟩ := List.exists_mem_of_length_pos c
      obtain ⟨h1, h2⟩ := List.mem_filter.mp hp
      exact ⟨p, h1, by rw [h2]; rfl⟩
    · have c2 : 0 < (f.filter fun p => p.right == m).length := by omega
      obtain ⟨p, hp⟩ := List.exists_mem_of_length_pos c2
      obtain ⟨h1, h2⟩ := List.mem_filter.mp hp
      exact ⟨p, h1, by rw [h2, Bool.or_true]⟩
theorem used_eq (f : Floor) : (List.range 6).filter (usedB f) = Sr115.usedMarks f := by
  unfold Sr115.usedMarks
  refine List.filter_congr fun m _ => ?_
  rw [Bool.eq_iff_iff, used_iff, decide_eq_true_eq]
theorem mem_used {f : Floor} {m : Nat} : m ∈ Sr115.usedMarks f ↔ m < 6 ∧ ∃ p ∈ f, p.left = m ∨ p.right = m := by
  rw [← used_eq, List.mem_filter, List.mem_range]
  unfold usedB
  rw [List.any_eq_true]
  refine and_congr_right fun _ => exists_congr fun p => and_congr_right fun _ => ?_
  rw [Bool.or_eq_true, beq_iff_eq, beq_iff_eq]
/-! ### connected -/
def Edge (f : Floor) (x y : Nat) : Prop := ∃ p ∈ f, (p.left = x ∧ p.right = y) ∨ (p.right = x ∧ p.left = y)
inductive Conn (f : Floor) : Nat → Nat → Prop
  | refl (x : Nat) : Conn f x x
  | step {x y z : Nat} : Conn f x y → Edge f y z → Conn f x z
theorem Edge.symm {f : Floor} {x y : Nat} (h : Edge f x y) : Edge f y x := by
  obtain ⟨p, hp, h⟩ := h
  exact ⟨p, hp, h.symm.imp (fun h => ⟨h.2, h.1⟩) (fun h => ⟨h.2, h.1⟩)⟩
theorem Conn.trans {f : Floor} {x y z : Nat} (h : Conn f x y) (k : Conn f y z) : Conn f x z := by
  induction k with
  | refl => exact h
  | step _ e ih => exact ih.step e
theorem Conn.one {f : Floor} {x y : Nat} (h : Edge f x y) : Conn f x y := (Conn.refl x).step h
theorem Conn.symm {f : Floor} {x y : Nat} (h : Conn f x y) : Conn f y x := by
  induction h with
  | refl => exact Conn.refl _
  | step _ e ih => exact (Conn.one e.symm).trans ih
theorem Edge.app {f : Floor} {p : Piece} {x y : Nat} (h : Edge f x y) : Edge (f ++ [p]) x y := by
  obtain ⟨q, hq, h⟩ := h
  exact ⟨q, List.mem_append_left _ hq, h⟩
theorem Conn.app {f : Floor} {p : Piece} {x y : Nat} (h : Conn f x y) : Conn (f ++ [p]) x y := by
  induction h with
  | refl => exact Conn.refl _
  | step _ e ih => exact ih.step e.app
/-! ### the specification's set of marks -/
def addOf (f : Floor) (s : List Nat) : List Nat := (Sr115.usedMarks f).filter fun m => !s.contains m && f.any fun p => (p.left == m && s.contains p.right) || (p.right == m && s.contains p.left)
theorem mem_add {f : Floor} {s : List Nat} {m : Nat} : m ∈ addOf f s ↔ m ∈ Sr115.usedMarks f ∧ m ∉ s ∧ ∃ x ∈ s, Edge f x m := by
  unfold addOf
  rw [List.mem_filter]
  refine and_congr_right fun _ => ?_
  rw [Bool.and_eq_true, List.any_eq_true]
  refine and_congr (by simp) ?_
  constructor
  · rintro ⟨p, hp, h⟩
    rw [Bool.or_eq_true, Bool.and_eq_true, Bool.and_eq_true, beq_iff_eq, beq_iff_eq, List.contains_iff_mem, List.contains_iff_mem] at h
    rcases h with h | h
    · exact ⟨p.right, h.2, p, hp, .inr ⟨rfl, h.1⟩⟩
    · exact ⟨p.left, h.2, p, hp, .inl ⟨rfl, h.1⟩⟩
  · rintro ⟨x, hx, p, hp, h⟩
    refine ⟨p, hp, ?_⟩
    rw [Bool.or_eq_true, Bool.and_eq_true, Bool.and_eq_true, beq_iff_eq, beq_iff_eq, List.contains_iff_mem, List.contains_iff_mem]
    rcases h with h | h
    · exact .inr ⟨h.2, h.1 ▸ hx⟩
    · exact .inl ⟨h.2, h.1 ▸ hx⟩
def Closed (f : Floor) (s : List Nat) : Prop := ∀ x ∈ s, ∀ y, Edge f x y → y ∈ s
theorem edge_used {f : Floor} (he : MEnds f) {x y : Nat} (h : Edge f x y) : x ∈ Sr115.usedMarks f ∧ y ∈ Sr115.usedMarks f := by
  obtain ⟨p, hp, h⟩ := h
  have := he p hp
  rw [mem_used, mem_used]
  rcases h with h | h
  · exact ⟨⟨by omega, p, hp, .inl h.1⟩, ⟨by omega, p, hp, .inr h.2⟩⟩
  · exact ⟨⟨by omega, p, hp, .inr h.1⟩, ⟨by omega, p, hp, .inl h.2⟩⟩
theorem closed_of_nil {f : Floor} (he : MEnds f) {s : List Nat} (h : addOf f s = []) : Closed f s := fun x hx y e => by
  by_cases c : y ∈ s
  · exact c
  · have : y ∈ addOf f s := mem_add.mpr ⟨(edge_used he e).2, c, x, hx, e⟩
    rw [h] at this
    cases this
theorem add_of_closed {f : Floor} {s : List Nat} (h : Closed f s) : addOf f s = [] := by
  rw [List.eq_nil_iff_forall_not_mem]
  intro m hm
  obtain ⟨_, h1, x, hx, e⟩ := mem_add.mp hm
  exact h1 (h x hx m e)
theorem extend_closed {f : Floor} {s : List Nat} (h : Closed f s) : ∀ k, Sr115.extendSet f k s = s
  | 0 => rfl
  | k + 1 => by
    show Sr115.extendSet f k (s ++ addOf f s) = s
    rw [add_of_closed h, List.append_nil]
    exact extend_closed h k
/-- the marks are all different, and below 6 -/
def Good (s : List Nat) : Prop := s.Nodup ∧ ∀ x ∈ s, x < 6
theorem good_len {s : List Nat} (h : Good s) : s.length ≤ 6 := by
  have : ∀ n (s : List Nat), s.Nodup → (∀ x ∈ s, x < n) → s.length ≤ n := fun n => by
    induction n with
    | zero =>
      intro s _ h
      cases s with
      | nil => exact Nat.le_refl _
      | cons x r => exact absurd (h x List.mem_cons_self) (Nat.not_lt_zero _)
    | succ n ih =>
      intro s nd h
      have h1 := ih (s.erase n) (nd.erase n) fun x hx => by
        have := (nd.mem_erase_iff).mp hx
        have := h x this.2
        omega
      have h2 : s.length ≤ (s.erase n).length + 1 := by
        rw [List.length_erase]
        split <;> omega
      omega
  exact this 6 s h.1 h.2
theorem add_good {f : Floor} {s : List Nat} (h : Good s) : Good (s ++ addOf f s) := by
  refine ⟨?_, fun x hx => ?_⟩
  · rw [List.nodup_append]
    refine ⟨h.1, ?_, fun a ha b hb e => ?_⟩
    · unfold addOf Sr115.usedMarks
      exact (List.nodup_range.filter _).filter _
    · exact (mem_add.mp hb).2.1 (e ▸ ha)
  · rcases List.mem_append.mp hx with hx | hx
    · exact h.2 x hx
    · exact (mem_used.mp (mem_add.mp hx).1).1
theorem ext_closed {f : Floor} (he : MEnds f) : ∀ (k : Nat) (s : List Nat), Good s → 7 ≤ s.length + k → Closed f (Sr115.extendSet f k s)
  | 0, s, g, h => by
    have := good_len g
    omega
  | k + 1, s, g, h => by
    show Closed f (Sr115.extendSet f k (s ++ addOf f s))
    by_cases c : addOf f s = []
    · have q := closed_of_nil he c
      rw [c, List.append_nil, extend_closed q]
      exact q
    · have : 0 < (addOf f s).length := List.length_pos_iff.mpr c
      exact ext_closed he k _ (add_good g) (by rw [List.length_append]; omega)
theorem ext_sub {f : Floor} : ∀ (k : Nat) (s : List Nat), ∀ x ∈ s, x ∈ Sr115.extendSet f k s
  | 0, _, _, h => h
  | k + 1, s, x, h => ext_sub k (s ++ addOf f s) x (List.mem_append_left _ h)
theorem ext_conn {f : Floor} {m : Nat} : ∀ (k : Nat) (s : List Nat), (∀ x ∈ s, Conn f m x) → ∀ x ∈ Sr115.extendSet f k s, Conn f m x
  | 0, _, h => h
  | k + 1, s, h => ext_conn k (s ++ addOf f s) fun x hx => by
    rcases List.mem_append.mp hx with hx | hx
    · exact h x hx
    · obtain ⟨_, _, y, hy, e⟩ := mem_add.mp hx
      exact (h y hy).step e
theorem mem_ext_iff {f : Floor} (he : MEnds f) {m x : Nat} (hm : m < 6) : x ∈ Sr115.extendSet f 6 [m] ↔ Conn f m x := by
  refine ⟨ext_conn 6 [m] (fun y hy => ?_) x, fun h => ?_⟩
  · rw [List.mem_singleton] at hy
    rw [hy]
    exact Conn.refl m
  · have hc : Closed f (Sr115.extendSet f 6 [m]) := ext_closed he 6 [m] ⟨by simp, fun y hy => by
      rw [List.mem_singleton] at hy
      omega⟩ (by show 7 ≤ 1 + 6; decide)
    induction h with
    | refl => exact ext_sub 6 [m] m (List.mem_singleton.mpr rfl)
    | step _ e ih => exact hc _ ih _ e
/-! ### the names -/
def joinF (names : List Nat) (a b : Nat) : List Nat := names.map fun n => if n = a ∨ n = b then min a b else n
def namesF (f : Floor) : List Nat := f.foldl (fun names p => joinF names (names.getD p.left 0) (names.getD p.right 0)) (List.range 6)
theorem names_app (f : Floor) (p : Piece) : namesF (f ++ [p]) = joinF (namesF f) ((namesF f).getD p.left 0) ((namesF f).getD p.right 0) := by
  unfold namesF
  rw [List.foldl_append]
  rfl
def nmAt (f : Floor) (x : Nat) : Nat := (namesF f).getD x 0
structure NmOk (f : Floor) : Prop where
  len : (namesF f).length = 6
  le : ∀ x, x < 6 → nmAt f x ≤ x
  conn : ∀ x, x < 6 → Conn f x (nmAt f x)
  edge : ∀ x y, Edge f x y → nmAt f x = nmAt f y
theorem nm_app (f : Floor) (h : (namesF f).length = 6) (p : Piece) {x : Nat} (hx : x < 6) : nmAt (f ++ [p]) x = if nmAt f x = nmAt f p.left ∨ nmAt f x = nmAt f p.right then min (nmAt f p.left) (nmAt f p.right) else nmAt f x := by
  have e : (namesF f)[x]? = some (nmAt f x) := by
    unfold nmAt
    rw [List.getD_eq_getElem?_getD, List.getElem?_eq_getElem (show x < (namesF f).length by omega)]
    rfl
  have e2 : (namesF (f ++ [p]))[x]? = some (if nmAt f x = nmAt f p.left ∨ nmAt f x = nmAt f p.right then min (nmAt f p.left) (nmAt f p.right) else nmAt f x) := by
    rw [names_app]
    unfold joinF
    rw [List.getElem?_map, e]
    rfl
  show (namesF (f ++ [p])).getD x 0 = _
  rw [List.getD_eq_getElem?_getD, e2]
  rfl
theorem nm_ok : ∀ (n : Nat) (f : Floor), f.length = n → MEnds f → NmOk f
  | 0, f, hn, _ => by
    have e : f = [] := List.eq_nil_of_length_eq_zero hn
    subst e
    have e : ∀ x, x < 6 → nmAt [] x = x := by decide
    refine ⟨rfl, fun x h => by rw [e x h]; exact Nat.le_refl _, fun x h => by rw [e x h]; exact Conn.refl x, fun x y h => ?_⟩
    obtain ⟨p, hp, _⟩ := h
    cases hp
  | n + 1, f', hn, he' => by
    have ne : f' ≠ [] := fun z => by rw [z] at hn; cases hn
    obtain ⟨f, p, rfl⟩ : ∃ f p, f' = f ++ [p] := ⟨f'.dropLast, f'.getLast ne, (List.dropLast_concat_getLast ne).symm⟩
    have hp := he' p (List.mem_append_right _ (List.mem_singleton.mpr rfl))
    have he : MEnds f := fun q hq => he' q (List.mem_append_left _ hq)
    obtain ⟨h1, h2, h3, h4⟩ := nm_ok n f (by rw [List.length_append] at hn; exact Nat.succ.inj hn) he
    have E : Edge (f ++ [p]) p.left p.right := ⟨p, List.mem_append_right _ (List.mem_singleton.mpr rfl), .inl ⟨rfl, rfl⟩⟩
    have C : Conn (f ++ [p]) (nmAt f p.left) (nmAt f p.right) := ((h3 _ hp.1).app.symm.trans (Conn.one E)).trans (h3 _ hp.2).app
    refine ⟨?_, fun x hx => ?_, fun x hx => ?_, fun x y e => ?_⟩
    · rw [names_app]
      unfold joinF
      rw [List.length_map, h1]
    · rw [nm_app f h1 p hx]
      have := h2 x hx
      split <;> omega
    · rw [nm_app f h1 p hx]
      have c := (h3 x hx).app (p := p)
      split
      · rename_i q
        have cm : Conn (f ++ [p]) (nmAt f p.left) (min (nmAt f p.left) (nmAt f p.right)) := by
          by_cases l : nmAt f p.left ≤ nmAt f p.right
          · rw [Nat.min_eq_left l]
            exact Conn.refl _
          · rw [Nat.min_eq_right (by omega)]
            exact C
        rcases q with q | q
        · rw [q] at c
          exact c.trans cm
        · rw [q] at c
          exact (c.trans C.symm).trans cm
      · exact c
    · have hx : x < 6 ∧ y < 6 := by
        obtain ⟨q, hq, h⟩ := e
        have := he' q hq
        omega
      rw [nm_app f h1 p hx.1, nm_app f h1 p hx.2]
      obtain ⟨q, hq, h⟩ := e
      rcases List.mem_append.mp hq with hq | hq
      · rw [h4 x y ⟨q, hq, h⟩]
      · rw [List.mem_singleton] at hq
        subst hq
        rcases h with ⟨rfl, rfl⟩ | ⟨rfl, rfl⟩
        · rw [if_pos (.inl rfl), if_pos (.inr rfl)]
        · rw [if_pos (.inr rfl), if_pos (.inl rfl)]
theorem NmOk.all {f : Floor} (h : NmOk f) {x y : Nat} (c : Conn f x y) : nmAt f x = nmAt f y := by
  induction c with
  | refl => rfl
  | step _ e ih => exact ih.trans (h.edge _ _ e)
theorem nm_iff {f : Floor} (he : MEnds f) {x y : Nat} (hx : x < 6) (hy : y < 6) : Conn f x y ↔ nmAt f x = nmAt f y := by
  have h := nm_ok _ f rfl he
  refine ⟨h.all, fun e => ?_⟩
  have c := h.conn x hx
  rw [e] at c
  exact c.trans (h.conn y hy).symm
theorem mem_comp {f : Floor} (he : MEnds f) {m x : Nat} (hm : m < 6) : x ∈ Sr115.componentOf f m ↔ x < 6 ∧ nmAt f m = nmAt f x := by
  unfold Sr115.componentOf
  rw [List.mem_filter, List.mem_range]
  refine and_congr_right fun hx => ?_
  rw [List.contains_iff_mem]
  exact (mem_ext_iff he hm).trans (nm_iff he hm hx)
theorem comp_eq {f : Floor} (he : MEnds f) {m : Nat} (hm : m < 6) : Sr115.componentOf f m = (List.range 6).filter fun x => nmAt f x == nmAt f m := by
  unfold Sr115.componentOf
  refine List.filter_congr fun x hx => ?_
  rw [Bool.eq_iff_iff, List.contains_iff_mem, beq_iff_eq]
  exact ((mem_ext_iff he hm).trans (nm_iff he hm (List.mem_range.mp hx))).trans eq_comm
theorem head_iff {f : Floor} (he : MEnds f) {m : Nat} (hm : m < 6) : (Sr115.componentOf f m).headD m = m ↔ nmAt f m = m := by
  have h := nm_ok _ f rfl he
  have nd : (Sr115.componentOf f m).Pairwise (· < ·) := by
    unfold Sr115.componentOf
    exact List.pairwise_lt_range.filter _
  have hin : m ∈ Sr115.componentOf f m := (mem_comp he hm).mpr ⟨hm, rfl⟩
  have h2 : nmAt f m ∈ Sr115.componentOf f m := by
    have l := h.le m hm
    exact (mem_comp he hm).mpr ⟨by omega, h.all (h.conn m hm)⟩
  have all : ∀ x ∈ Sr115.componentOf f m, nmAt f m ≤ x := fun x hx => by
    obtain ⟨h1, h2⟩ := (mem_comp he hm).mp hx
    rw [h2]
    exact h.le x h1
  cases e : Sr115.componentOf f m with
  | nil => rw [e] at hin; cases hin
  | cons y r =>
    rw [e] at hin h2 all nd
    show y = m ↔ _
    have hy := all y List.mem_cons_self
    have lo : ∀ x ∈ y :: r, y ≤ x := fun x hx => by
      rcases List.mem_cons.mp hx with e | hx
      · rw [e]
        exact Nat.le_refl _
      · exact Nat.le_of_lt ((List.pairwise_cons.mp nd).1 x hx)
    have l := lo _ h2
    have l2 := h.le m hm
    have l3 := lo _ hin
    omega
theorem comps_eq {f : Floor} (he : MEnds f) : (Sr115.usedMarks f).filter (fun m => nmAt f m == m) = Sr115.components f := by
  unfold Sr115.components
  refine List.filter_congr fun m hm => ?_
  rw [Bool.eq_iff_iff, beq_iff_eq, beq_iff_eq]
  exact (head_iff he (mem_used.mp hm).1).symm
theorem mem_comps {f : Floor} (he : MEnds f) {c : Nat} (h : c ∈ Sr115.components f) : c < 6 ∧ nmAt f c = c := by
  rw [← comps_eq he] at h
  obtain ⟨h1, h2⟩ := List.mem_filter.mp h
  exact ⟨(mem_used.mp h1).1, by simpa using h2⟩
/-! ### the fewest chains -/
def posM (f : Floor) (c : Nat) : List Int := ((List.range 6).filter fun m => nmAt f m == c).map fun m => max 0 (exAt f m)
theorem pos_eq {f : Floor} (he : MEnds f) {c : Nat} (h : c ∈ Sr115.components f) : posM f c = ((Sr115.componentOf f c).map (Sr115.positiveExcess f)).map fun (n : Nat) => (n : Int) := by
  obtain ⟨h1, h2⟩ := mem_comps he h
  rw [comp_eq he h1, h2, List.map_map]
  unfold posM
  refine List.map_congr_left fun m _ => ?_
  show max 0 (exAt f m) = ((Sr115.outDegree f m - Sr115.inDegree f m : Nat) : Int)
  unfold exAt
  omega
theorem foldl_sum : ∀ (l : List Nat) (a : Nat), l.foldl (· + ·) a = a + l.sum
  | [], a => rfl
  | x :: r, a => by
    rw [List.foldl_cons, foldl_sum r, List.sum_cons]
    omega
theorem sum_spec (l : List Nat) : SrCommon.sum l = l.sum := by
  unfold SrCommon.sum
  rw [foldl_sum]
  omega
theorem sum_cast : ∀ l : List Nat, (l.map fun (n : Nat) => (n : Int)).sum = ((l.sum : Nat) : Int)
  | [] => rfl
  | x :: r => by
    rw [List.map_cons, List.sum_cons, List.sum_cons, sum_cast r]
    omega
/-- what is reached after the components cs -/
def totM (f : Floor) (cs : List Nat) : Int := (cs.map fun c => max 1 (posM f c).sum).sum
theorem tot_app (f : Floor) (cs : List Nat) (c : Nat) : totM f (cs ++ [c]) = totM f cs + max 1 (posM f c).sum := by
  unfold totM
  rw [List.map_append, List.sum_append]
  show _ + (max 1 (posM f c).sum + 0) = _
  rw [Int.add_zero]
theorem tot_eq {f : Floor} (he : MEnds f) : totM f (Sr115.components f) = (Sr115.minChains f : Int) := by
  have key : ∀ cs : List Nat, (∀ c ∈ cs, c ∈ Sr115.components f) → totM f cs = (((cs.map fun c => max 1 (SrCommon.sum ((Sr115.componentOf f c).map (Sr115.positiveExcess f)))).sum : Nat) : Int) := fun cs => by
    induction cs with
    | nil => intro _; rfl
    | cons c r ih =>
      intro h
      have ih := ih fun x hx => h x (List.mem_cons_of_mem _ hx)
      show max 1 (posM f c).sum + totM f r = _
      rw [ih, pos_eq he (h c List.mem_cons_self), sum_cast, List.map_cons, List.sum_cons, sum_spec]
      omega
  rw [key _ fun c h => h]
  unfold Sr115.minChains
  rw [sum_spec]
end BB
/-! trees -/
namespace BB
open Sr115 (Floor pieceAt Piece)
def fromM (f : Floor) (m : Nat) : Floor := f.filter fun p => p.left == m
def putM (ch : List Nat) (m x : Nat) : List Nat := ch.take m ++ [x] ++ ch.drop (m + 1)
def wcM (f : Floor) (cs : List (List Nat)) (m : Nat) : List (List Nat) := cs.flatMap fun ch => (fromM f m).map fun p => putM ch m p.right
/-- the choices after the used marks ms -/
def itC (f : Floor) (root : Nat) (ms : List Nat) : List (List Nat) := ms.foldl (fun cs m => if m = root then cs else wcM f cs m) [List.replicate 6 root]
theorem itC_app (f : Floor) (root : Nat) (ms : List Nat) (m : Nat) : itC f root (ms ++ [m]) = if m = root then itC f root ms else wcM f (itC f root ms) m := by
  unfold itC
  rw [List.foldl_append]
  rfl
def goM (ch : List Nat) (m : Nat) : Nat → Nat
  | 0 => m
  | k + 1 => ch.getD (goM ch m k) 0
theorem goM_head (ch : List Nat) (m : Nat) : ∀ k, goM ch m (k + 1) = goM ch (ch.getD m 0) k
  | 0 => rfl
  | k + 1 => by
    show ch.getD (goM ch m (k + 1)) 0 = ch.getD (goM ch (ch.getD m 0) k) 0
    rw [goM_head ch m k]
def treeB (root : Nat) (ch : List Nat) : Bool := (List.range 6).all fun m => goM ch m 6 == root
def treesM (f : Floor) (root : Nat) : Nat := ((itC f root (Sr115.usedMarks f)).filter (treeB root)).length
/-! ### the specification's choices, to some marks -/
def stepS (f : Floor) (cs : List (List (Nat × Nat))) (m : Nat) : List (List (Nat × Nat)) := cs.flatMap fun c => ((Sr115.allPieces f).filter fun i => (pieceAt f i).left == m).map fun i => c ++ [(m, i)]
def itS (f : Floor) (root : Nat) (ms : List Nat) : List (List (Nat × Nat)) := ms.foldl (fun cs m => if m = root then cs else stepS f cs m) [[]]
theorem itS_app (f : Floor) (root : Nat) (ms : List Nat) (m : Nat) : itS f root (ms ++ [m]) = if m = root then itS f root ms else stepS f (itS f root ms) m := by
  unfold itS
  rw [List.foldl_append]
  rfl
theorem fold_if {α : Type} (g : α → Nat → α) (root : Nat) : ∀ (ms : List Nat) (a : α), ms.foldl (fun cs m => if m = root then cs else g cs m) a = (ms.filter fun m => m != root).foldl g a
  | [], _ => rfl
  | m :: r, a => by
    by_cases c : m = root
    · rw [List.foldl_cons, if_pos c, fold_if g root r, List.filter_cons_of_neg (by simpa using c)]
    · rw [List.foldl_cons, if_neg c, fold_if g root r, List.filter_cons_of_pos (by simpa using c), List.foldl_cons]
theorem choices_eq (f : Floor) (root : Nat) : itS f root (Sr115.usedMarks f) = Sr115.choicesFor f root := fold_if (stepS f) root _ _
def chs (f : Floor) (root : Nat) (c : List (Nat × Nat)) (m : Nat) : Nat := match c.find? fun y => y.1 == m with
  | none => root
  | some y => (pieceAt f y.2).right
def chosen (f : Floor) (root : Nat) (c : List (Nat × Nat)) : List Nat := (List.range 6).map (chs f root c)
theorem chosen_len (f : Floor) (root : Nat) (c : List (Nat × Nat)) : (chosen f root c).length = 6 := by
  unfold chosen
  rw [List.length_map, List.length_range]
theorem chosen_get {f : Floor} {root : Nat} {c : List (Nat × Nat)} {m : Nat} (h : m < 6) : (chosen f root c)[m]? = some (chs f root c m) := by
  unfold chosen
  rw [List.getElem?_map, List.getElem?_range h]
  rfl
theorem chosen_getD {f : Floor} {root : Nat} {c : List (Nat × Nat)} {m : Nat} (h : m < 6) : (chosen f root c).getD m 0 = chs f root c m := by
  rw [List.getD_eq_getElem?_getD, chosen_get h]
  rfl
theorem put_set {ch : List Nat} {m x : Nat} (h : m < ch.length) : putM ch m x = ch.set m x := by
  unfold putM
  rw [List.set_eq_take_append_cons_drop, if_pos h, List.append_assoc]
  rfl
theorem find_none {c : List (Nat × Nat)} {m : Nat} (h : m ∉ c.map (·.1)) : c.find? (fun y => y.1 == m) = none := by
  rw [List.find?_eq_none]
  intro y hy e
  exact h (List.mem_map.mpr ⟨y, hy, eq_of_beq e⟩)
theorem chosen_app {f : Floor} {root m i : Nat} {c : List (Nat × Nat)} (hm : m < 6) (h : m ∉ c.map (·.1)) : chosen f root (c ++ [(m, i)]) = putM (chosen f root c) m (pieceAt f i).right := by
  rw [put_set (by rw [chosen_len]; exact hm)]
  apply List.ext_getElem?
  intro k
  by_cases hk : k < 6
  · rw [chosen_get hk, List.getElem?_set, chosen_len, chosen_get hk]
    by_cases e : m = k
    · subst e
      rw [if_pos rfl, if_pos hm]
      unfold chs
      rw [List.find?_append, find_none h]
      simp
    · rw [if_neg e]
      unfold chs
      rw [List.find?_append]
      cases c.find? fun y => y.1 == k with
      | none =>
        have : ((m == k) = false) := by simpa using e
        simp [this]
      | some y => rfl
  · rw [List.getElem?_eq_none (by rw [chosen_len]; omega), List.getElem?_eq_none (by rw [List.length_set, chosen_len]; omega)]
theorem pieces_map (f : Floor) : (List.range f.length).map (pieceAt f) = f := by
  apply List.ext_getElem?
  intro k
  rw [List.getElem?_map]
  by_cases h : k < f.length
  · rw [List.getElem?_range h]
    unfold pieceAt
    show some (f.getD k ⟨0, 0⟩) = _
    rw [List.getD_eq_getElem?_getD, List.getElem?_eq_getElem h]
    rfl
  · rw [List.getElem?_eq_none (show (List.range f.length).length ≤ k by rw [List.length_range]; omega), List.getElem?_eq_none (show f.length ≤ k by omega)]
    rfl
theorem from_eq (f : Floor) (m : Nat) : fromM f m = ((Sr115.allPieces f).filter fun i => (pieceAt f i).left == m).map (pieceAt f) := by
  unfold fromM Sr115.allPieces
  conv => lhs; rw [← pieces_map f]
  rw [List.filter_map]
  rfl
structure ChOk (f : Floor) (root : Nat) (ms : List Nat) (c : List (Nat × Nat)) : Prop where
  keys : c.map (·.1) = ms.filter fun m => m != root
  pcs : ∀ y ∈ c, y.2 < f.length
theorem itS_ok {f : Floor} {root : Nat} : ∀ (n : Nat) (ms : List Nat), ms.length = n → ms.Nodup → (∀ m ∈ ms, m < 6) → (∀ c ∈ itS f root ms, ChOk f root ms c) ∧ itC f root ms = (itS f root ms).map (chosen f root)
  | 0, ms, hn, _, _ => by
    have e : ms = [] := List.eq_nil_of_length_eq_zero hn
    subst e
    refine ⟨fun c hc => ?_, rfl⟩
    have : c = [] := List.mem_singleton.mp hc
    subst this
    exact ⟨rfl, fun y hy => by cases hy⟩
  | n + 1, ms', hn, nd, h6 => by
    have ne : ms' ≠ [] := fun z => by rw [z] at hn; cases hn
    obtain ⟨ms, m, rfl⟩ : ∃ ms m, ms' = ms ++ [m] := ⟨ms'.dropLast, ms'.getLast ne, (List.dropLast_concat_getLast ne).symm⟩
    obtain ⟨nd1, _, nd2⟩ := List.nodup_append.mp nd
    have hm := h6 m (List.mem_append_right _ (List.mem_singleton.mpr rfl))
    have hmm : m ∉ ms := fun z => nd2 m z m (List.mem_singleton.mpr rfl) rfl
    obtain ⟨ih1, ih2⟩ := itS_ok (f := f) (root := root) n ms (by rw [List.length_append] at hn; exact Nat.succ.inj hn) nd1 fun x hx => h6 x (List.mem_append_left _ hx)
    rw [itC_app, itS_app]
    by_cases c : m = root
    · rw [if_pos c, if_pos c]
      refine ⟨fun d hd => ⟨?_, (ih1 d hd).pcs⟩, ih2⟩
      rw [(ih1 d hd).keys, List.filter_append, List.filter_cons_of_neg (by simpa using c)]
      exact (List.append_nil _).symm
    · rw [if_neg c, if_neg c]
      refine ⟨fun d hd => ?_, ?_⟩
      · obtain ⟨d0, hd0, hd⟩ := List.mem_flatMap.mp hd
        obtain ⟨i, hi, rfl⟩ := List.mem_map.mp hd
        have hi := List.mem_range.mp (List.mem_filter.mp hi).1
        refine ⟨?_, fun y hy => ?_⟩
        · rw [List.map_append, (ih1 d0 hd0).keys, List.filter_append, List.filter_cons_of_pos (by simpa using c)]
          rfl
        · rcases List.mem_append.mp hy with hy | hy
          · exact (ih1 d0 hd0).pcs y hy
          · rw [List.mem_singleton] at hy
            subst hy
            exact hi
      · rw [ih2]
        unfold wcM stepS
        rw [List.flatMap_map, List.map_flatMap, List.flatMap_def, List.flatMap_def]
        congr 1
        refine List.map_congr_left fun d hd => ?_
        rw [from_eq, List.map_map, List.map_map]
        refine List.map_congr_left fun i _ => ?_
        refine (chosen_app hm ?_).symm
        rw [(ih1 d hd).keys]
        exact fun z => hmm (List.mem_filter.mp z).1
theorem used_nodup (f : Floor) : (Sr115.usedMarks f).Nodup := by
  unfold Sr115.usedMarks
  exact List.nodup_range.filter _
theorem used_lt {f : Floor} {m : Nat} (h : m ∈ Sr115.usedMarks f) : m < 6 := (mem_used.mp h).1
/-! ### where the choices lead -/
theorem chs_root {f : Floor} {root : Nat} {c : List (Nat × Nat)} (h : ChOk f root (Sr115.usedMarks f) c) : chs f root c root = root := by
  unfold chs
  rw [find_none]
  rw [h.keys]
  intro z
  have := (List.mem_filter.mp z).2
  simp at this
theorem chs_un {f : Floor} {root m : Nat} {c : List (Nat × Nat)} (h : ChOk f root (Sr115.usedMarks f) c) (hm : m ∉ Sr115.usedMarks f) : chs f root c m = root := by
  unfold chs
  rw [find_none]
  rw [h.keys]
  exact fun z => hm (List.mem_filter.mp z).1
theorem find_some {f : Floor} {root m : Nat} {c : List (Nat × Nat)} (he : MEnds f) (h : ChOk f root (Sr115.usedMarks f) c) (hm : m ∈ Sr115.usedMarks f) (n : m ≠ root) : ∃ y, c.find? (fun y => y.1 == m) = some y ∧ (pieceAt f y.2).right ∈ Sr115.usedMarks f := by
  have hk : m ∈ c.map (·.1) := by
    rw [h.keys]
    exact List.mem_filter.mpr ⟨hm, by simpa using n⟩
  obtain ⟨z, hz, hz1⟩ := List.mem_map.mp hk
  cases e : c.find? fun y => y.1 == m with
  | none =>
    have := List.find?_eq_none.mp e z hz
    exact absurd (beq_iff_eq.mpr hz1) this
  | some y =>
    refine ⟨y, rfl, ?_⟩
    have hy := h.pcs y (List.mem_of_find?_eq_some e)
    have hp : pieceAt f y.2 ∈ f := by
      unfold pieceAt
      rw [List.getD_eq_getElem?_getD, List.getElem?_eq_getElem hy]
      exact List.getElem_mem hy
    exact mem_used.mpr ⟨(he _ hp).2, _, hp, .inr rfl⟩
theorem go_root {f : Floor} {root : Nat} {c : List (Nat × Nat)} (hr : root < 6) (h : ChOk f root (Sr115.usedMarks f) c) : ∀ k, goM (chosen f root c) root k = root
  | 0 => rfl
  | k + 1 => by
    rw [goM_head, chosen_getD hr, chs_root h]
    exact go_root hr h k
theorem leads_root (f : Floor) (root : Nat) (c : List (Nat × Nat)) : ∀ k, Sr115.leadsToRoot f root c k root = true
  | 0 => by
    unfold Sr115.leadsToRoot
    exact beq_iff_eq.mpr rfl
  | k + 1 => by
    unfold Sr115.leadsToRoot
    rw [beq_iff_eq.mpr rfl]
    rfl
theorem leads_go {f : Floor} {root : Nat} {c : List (Nat × Nat)} (he : MEnds f) (hr : root < 6) (h : ChOk f root (Sr115.usedMarks f) c) : ∀ (k m : Nat), m ∈ Sr115.usedMarks f → Sr115.leadsToRoot f root c k m = (goM (chosen f root c) m k == root)
  | 0, m, _ => by
    unfold Sr115.leadsToRoot
    rfl
  | k + 1, m, hm => by
    by_cases e : m = root
    · rw [e, leads_root, go_root hr h]
      exact (beq_iff_eq.mpr rfl).symm
    · obtain ⟨y, h1, h2⟩ := find_some he h hm e
      rw [goM_head, chosen_getD (used_lt hm)]
      have e2 : chs f root c m = (pieceAt f y.2).right := by
        unfold chs
        rw [h1]
      rw [e2, ← leads_go he hr h k _ h2]
      conv => lhs; unfold Sr115.leadsToRoot
      rw [h1, show (m == root) = false by simpa using e, Bool.false_or]
theorem tree_eq {f : Floor} {root : Nat} {c : List (Nat × Nat)} (he : MEnds f) (hr : root < 6) (h : ChOk f root (Sr115.usedMarks f) c) : treeB root (chosen f root c) = (Sr115.usedMarks f).all fun m => Sr115.leadsToRoot f root c Sr115.markCount m := by
  unfold treeB
  rw [Bool.eq_iff_iff, List.all_eq_true, List.all_eq_true]
  constructor
  · intro q m hm
    rw [leads_go he hr h _ m hm]
    exact q m (List.mem_range.mpr (used_lt hm))
  · intro q m hm
    by_cases u : m ∈ Sr115.usedMarks f
    · have := q m u
      rw [leads_go he hr h _ m u] at this
      exact this
    · rw [goM_head, chosen_getD (List.mem_range.mp hm), chs_un h u, go_root hr h]
      exact beq_iff_eq.mpr rfl
theorem trees_eq {f : Floor} {root : Nat} (he : MEnds f) (hr : root < 6) : treesM f root = Sr115.treeCount f root := by
  unfold treesM Sr115.treeCount
  obtain ⟨h1, h2⟩ := itS_ok (f := f) (root := root) _ _ rfl (used_nodup f) fun m hm => used_lt hm
  rw [h2, ← choices_eq, List.filter_map, List.length_map]
  congr 1
  refine List.filter_congr fun c hc => ?_
  exact tree_eq he hr (h1 c hc)
/-! ### how many, and what stands in them -/
theorem put_len {ch : List Nat} {m x : Nat} (h : m < ch.length) : (putM ch m x).length = ch.length := by
  rw [put_set h, List.length_set]
theorem itC_row {f : Floor} {root : Nat} (he : MEnds f) (hr : root < 6) {ms : List Nat} (nd : ms.Nodup) (h6 : ∀ m ∈ ms, m < 6) : ∀ ch ∈ itC f root ms, ch.length = 6 ∧ ∀ x ∈ ch, x < 6 := by
  obtain ⟨h1, h2⟩ := itS_ok (f := f) (root := root) _ _ rfl nd h6
  rw [h2]
  intro ch hch
  obtain ⟨c, hc, rfl⟩ := List.mem_map.mp hch
  refine ⟨chosen_len _ _ _, fun x hx => ?_⟩
  obtain ⟨m, _, rfl⟩ := List.mem_map.mp hx
  unfold chs
  cases e : c.find? fun y => y.1 == m with
  | none => exact hr
  | some y =>
    have hy := (h1 c hc).pcs y (List.mem_of_find?_eq_some e)
    have hp : pieceAt f y.2 ∈ f := by
      unfold pieceAt
      rw [List.getD_eq_getElem?_getD, List.getElem?_eq_getElem hy]
      exact List.getElem_mem hy
    exact (he _ hp).2
theorem cnt_app {m : Nat} {ms : List Nat} (h : m ∉ ms) : ∀ f : Floor, (f.filter fun p => (ms ++ [m]).contains p.left).length = (f.filter fun p => ms.contains p.left).length + Sr115.outDegree f m
  | [] => rfl
  | p :: f => by
    have ih := cnt_app h f
    unfold Sr115.outDegree at ih ⊢
    by_cases c : p.left = m
    · have c1 : p.left ∉ ms := c ▸ h
      rw [List.filter_cons_of_pos (by simp [c]), List.filter_cons_of_neg (by simpa using c1), List.filter_cons_of_pos (by simpa using c), List.length_cons, List.length_cons, ih]
      omega
    · by_cases d : p.left ∈ ms
      · rw [List.filter_cons_of_pos (by simp [d]), List.filter_cons_of_pos (by simpa using d), List.filter_cons_of_neg (by simpa using c), List.length_cons, List.length_cons, ih]
        omega
      · rw [List.filter_cons_of_neg (by simp [c, d]), List.filter_cons_of_neg (by simpa using d), List.filter_cons_of_neg (by simpa using c), ih]
theorem wc_len (f : Floor) (m : Nat) : ∀ cs : List (List Nat), (wcM f cs m).length = cs.length * Sr115.outDegree f m
  | [] => by simp [wcM]
  | c :: r => by
    have ih := wc_len f m r
    unfold wcM at ih ⊢
    rw [List.flatMap_cons, List.length_append, ih, List.length_map, List.length_cons, Nat.succ_mul]
    show Sr115.outDegree f m + _ = _
    omega
theorem itC_pow {f : Floor} {root : Nat} : ∀ (n : Nat) (ms : List Nat), ms.length = n → ms.Nodup → (itC f root ms).length ≤ 2 ^ (f.filter fun p => ms.contains p.left).length
  | 0, ms, hn, _ => by
    have e : ms = [] := List.eq_nil_of_length_eq_zero hn
    subst e
    exact Nat.one_le_two_pow
  | n + 1, ms', hn, nd => by
    have ne : ms' ≠ [] := fun z => by rw [z] at hn; cases hn
    obtain ⟨ms, m, rfl⟩ : ∃ ms m, ms' = ms ++ [m] := ⟨ms'.dropLast, ms'.getLast ne, (List.dropLast_concat_getLast ne).symm⟩
    obtain ⟨nd1, _, nd2⟩ := List.nodup_append.mp nd
    have hmm : m ∉ ms := fun z => nd2 m z m (List.mem_singleton.mpr rfl) rfl
    have ih := itC_pow (f := f) (root := root) n ms (by rw [List.length_append] at hn; exact Nat.succ.inj hn) nd1
    rw [itC_app, cnt_app hmm, Nat.pow_add]
    have h1 : Sr115.outDegree f m ≤ 2 ^ Sr115.outDegree f m := Nat.le_of_lt Nat.lt_two_pow_self
    by_cases c : m = root
    · rw [if_pos c]
      exact Nat.le_trans ih (Nat.le_mul_of_pos_right _ (Nat.two_pow_pos _))
    · rw [if_neg c, wc_len]
      exact Nat.mul_le_mul ih h1
theorem itC_len {f : Floor} (h7 : f.length ≤ 7) (root : Nat) {ms : List Nat} (nd : ms.Nodup) : (itC f root ms).length ≤ 128 := by
  refine Nat.le_trans (itC_pow _ ms rfl nd) ?_
  have h := List.length_filter_le (fun p : Piece => ms.contains p.left) f
  exact Nat.pow_le_pow_right (n := 2) (by decide) (show _ ≤ 7 by omega)
theorem from_len (f : Floor) (m : Nat) : (fromM f m).length = Sr115.outDegree f m := rfl
theorem from_le (f : Floor) (m : Nat) : (fromM f m).length ≤ f.length := List.length_filter_le _ _
/-! ### the circuits by trees -/
theorem fac_spec : ∀ n, fac n = Sr115.factorial n
  | 0 => rfl
  | n + 1 => by
    show (n + 1) * fac n = (n + 1) * Sr115.factorial n
    rw [fac_spec n]
def prodM (f : Floor) (ms : List Nat) : Nat := treesM f (pieceAt f 0).left * (ms.map fun m => fac (Sr115.outDegree f m - 1)).foldl (· * ·) 1
theorem prod_app (f : Floor) (ms : List Nat) (m : Nat) : prodM f (ms ++ [m]) = prodM f ms * fac (Sr115.outDegree f m - 1) := by
  unfold prodM
  rw [List.map_append, List.foldl_append, Nat.mul_assoc]
  rfl
theorem prod_nil (f : Floor) : prodM f [] = treesM f (pieceAt f 0).left := Nat.mul_one _
theorem bal_eq (f : Floor) : ((exM f).map fun x => x != 0).any id = !Sr115.isBalanced f := by
  unfold Sr115.isBalanced exM
  rw [List.map_map, List.any_map, Bool.eq_iff_iff, Bool.not_eq_true', List.any_eq_true, ← Bool.not_eq_true, List.all_eq_true]
  constructor
  · rintro ⟨m, hm, h⟩ q
    have h' : exAt f m ≠ 0 := by simpa using h
    unfold exAt at h'
    have u : m ∈ Sr115.usedMarks f := by
      unfold Sr115.usedMarks
      rw [List.mem_filter, decide_eq_true_eq]
      exact ⟨hm, by omega⟩
    have := q m u
    rw [beq_iff_eq] at this
    omega
  · intro q
    apply Classical.byContradiction
    intro k
    refine q fun m hm => ?_
    apply Classical.byContradiction
    intro z
    refine k ⟨m, List.mem_range.mpr (used_lt hm), ?_⟩
    show (exAt f m != 0) = true
    unfold exAt
    rw [beq_iff_eq] at z
    rw [bne_iff_ne]
    omega
theorem pieceAt_mem {f : Floor} {i : Nat} (h : i < f.length) : pieceAt f i ∈ f := by
  unfold pieceAt
  rw [List.getD_eq_getElem?_getD, List.getElem?_eq_getElem h]
  exact List.getElem_mem h
theorem cbt_zero {f : Floor} (h : f = [] ∨ 1 < (Sr115.components f).length) : Sr115.circuitCountByTrees f = 0 := by
  unfold Sr115.circuitCountByTrees
  exact if_pos (h.imp id .inr)
theorem cbt_unbal {f : Floor} (h : ((exM f).map fun x => x != 0).any id = true) : Sr115.circuitCountByTrees f = 0 := by
  unfold Sr115.circuitCountByTrees
  rw [bal_eq] at h
  exact if_pos (.inr (.inl (by simpa using h)))
theorem cbt_some {f : Floor} (he : MEnds f) (h1 : f ≠ []) (h2 : ¬ 1 < (Sr115.components f).length) (h3 : ((exM f).map fun x => x != 0).any id = false) : prodM f (Sr115.usedMarks f) = Sr115.circuitCountByTrees f := by
  unfold Sr115.circuitCountByTrees
  rw [bal_eq] at h3
  have hb : Sr115.isBalanced f = true := by simpa using h3
  rw [if_neg (by
    rintro (h | h | h)
    · exact h1 h
    · rw [hb] at h
      cases h
    · exact h2 h)]
  unfold prodM
  rw [trees_eq he (he _ (pieceAt_mem (List.length_pos_iff.mpr h1))).1]
  congr 2
  refine List.map_congr_left fun m _ => fac_spec _
/-- a used mark begins a piece, where every mark begins as many as it ends -/
theorem out_pos {f : Floor} (h3 : ((exM f).map fun x => x != 0).any id = false) {m : Nat} (hm : m ∈ Sr115.usedMarks f) : 1 ≤ Sr115.outDegree f m := by
  rw [bal_eq] at h3
  have hb : Sr115.isBalanced f = true := by simpa using h3
  unfold Sr115.isBalanced at hb
  have := (List.all_eq_true.mp hb) m hm
  rw [beq_iff_eq] at this
  unfold Sr115.usedMarks at hm
  have h := (List.mem_filter.mp hm).2
  rw [decide_eq_true_eq] at h
  omega
end BB
/-! the calls: what is handed in as a row of calls, what is due as a row of answers -/
namespace BB
open Sr115 (Floor pieceAt Piece)
abbrev Cl115 := Sr115.Call
/-- a call's number; the numbers that stand behind it -/
def numOf : Cl115 → Int
  | .create => 0
  | .addPiece _ _ => 1
  | .removePiece _ => 2
  | .setPiece _ _ _ => 3
  | .chainCount => 4
  | .chain _ => 5
  | .singleChainPossible => 6
  | .minChains => 7
  | .excesses => 8
  | .components => 9
  | .circuitCount => 10
  | .circuit _ => 11
  | .treeCount _ => 12
  | .checkChains _ => 13
  | .chainsFrom _ => 14
  | .evaluateWithPiece _ _ => 15
  | .describe => 16
def argOf : Cl115 → List Int
  | .addPiece a b => [a, b]
  | .removePiece a => [a]
  | .setPiece a b c => [a, b, c]
  | .chain a => [a]
  | .circuit a => [a]
  | .treeCount a => [a]
  | .checkChains r => (r.length : Int) :: r
  | .chainsFrom a => [a]
  | .evaluateWithPiece a b => [a, b]
  | _ => []
def rowOk : Cl115 → Prop
  | .checkChains r => r.length ≤ 70
  | _ => True
def encC (c : Cl115) : List Int := numOf c :: argOf c
def flatC (cs : List Cl115) : List Int := cs.flatMap encC
def resL (r : SrCommon.Result) : List Int := r.code :: r.values
def stAfter (cs : List Cl115) : Sr115.State := cs.foldl (fun s c => (Sr115.step s c).1) none
def playC : Sr115.State → List Cl115 → List (List Int)
  | _, [] => []
  | s, c :: r => resL (Sr115.step s c).2 :: playC (Sr115.step s c).1 r
theorem playC_app : ∀ (cs ds : List Cl115) (s : Sr115.State), playC s (cs ++ ds) = playC s cs ++ playC (cs.foldl (fun s c => (Sr115.step s c).1) s) ds
  | [], _, _ => rfl
  | c :: cs, ds, s => by
    show resL _ :: playC _ (cs ++ ds) = resL _ :: playC _ cs ++ _
    rw [playC_app cs ds]
    rfl
def toldC (cs : List Cl115) : List Int := PyFlat.told (playC none cs)
theorem told_app (cs : List Cl115) (c : Cl115) : toldC (cs ++ [c]) = toldC cs ++ (((resL (Sr115.step (stAfter cs) c).2).length : Int) :: resL (Sr115.step (stAfter cs) c).2) := by
  unfold toldC PyFlat.told
  rw [playC_app, List.flatMap_append]
  show _ ++ ((_ :: _) ++ []) = _
  rw [List.append_nil]
  rfl
theorem st_app (cs : List Cl115) (c : Cl115) : stAfter (cs ++ [c]) = (Sr115.step (stAfter cs) c).1 := by
  unfold stAfter
  rw [List.foldl_append]
  rfl
theorem flat_app (cs : List Cl115) (c : Cl115) : flatC (cs ++ [c]) = flatC cs ++ encC c := by
  unfold flatC
  rw [List.flatMap_append]
  show _ ++ (_ ++ []) = _
  rw [List.append_nil]
/-! ### one call -/
theorem len1 {a : List Int} (h : a.length = 1) : ∃ x, a = [x] := by
  match a, h with
  | [x], _ => exact ⟨x, rfl⟩
theorem len2 {a : List Int} (h : a.length = 2) : ∃ x y, a = [x, y] := by
  match a, h with
  | [x, y], _ => exact ⟨x, y, rfl⟩
theorem len3 {a : List Int} (h : a.length = 3) : ∃ x y z, a = [x, y, z] := by
  match a, h with
  | [x, y, z], _ => exact ⟨x, y, z, rfl⟩
theorem lenr {a : List (List Int)} (h : a.length = 1) : ∃ x, a = [x] := by
  match a, h with
  | [x], _ => exact ⟨x, rfl⟩
theorem one_call {raw : List (List Int)} (h : PyFlat.okCall PySr115.shape raw) (hb : PyInside.call PySr115.bound raw = true) : ∃ c : Cl115, Sr115Neutral.parseCall (PySr115.whole raw) = some c ∧ PyFlat.put1 raw = encC c ∧ rowOk c := by
  obtain ⟨p, a, xs, rfl, hs⟩ := h
  unfold PySr115.shape at hs
  by_cases e : p = 0
  · rw [if_pos e] at hs
    subst e
    obtain ⟨h1, h2⟩ := Prod.mk.inj (Option.some.inj hs)
    have e1 := List.eq_nil_of_length_eq_zero h1.symm
    have e2 := List.eq_nil_of_length_eq_zero h2.symm
    subst e1; subst e2
    exact ⟨.create, rfl, rfl, trivial⟩
  rw [if_neg e] at hs
  clear e
  by_cases e : p = 1
  · rw [if_pos e] at hs
    subst e
    obtain ⟨h1, h2⟩ := Prod.mk.inj (Option.some.inj hs)
    obtain ⟨x, y, e1⟩ := len2 h1.symm
    have e2 := List.eq_nil_of_length_eq_zero h2.symm
    subst e1; subst e2
    exact ⟨.addPiece x y, rfl, rfl, trivial⟩
  rw [if_neg e] at hs
  clear e
  by_cases e : p = 2
  · rw [if_pos e] at hs
    subst e
    obtain ⟨h1, h2⟩ := Prod.mk.inj (Option.some.inj hs)
    obtain ⟨x, e1⟩ := len1 h1.symm
    have e2 := List.eq_nil_of_length_eq_zero h2.symm
    subst e1; subst e2
    exact ⟨.removePiece x, rfl, rfl, trivial⟩
  rw [if_neg e] at hs
  clear e
  by_cases e : p = 3
  · rw [if_pos e] at hs
    subst e
    obtain ⟨h1, h2⟩ := Prod.mk.inj (Option.some.inj hs)
    obtain ⟨x, y, z, e1⟩ := len3 h1.symm
    have e2 := List.eq_nil_of_length_eq_zero h2.symm
    subst e1; subst e2
    exact ⟨.setPiece x y z, rfl, rfl, trivial⟩
  rw [if_neg e] at hs
  clear e
  by_cases e : p = 4
  · rw [if_pos e] at hs
    subst e
    obtain ⟨h1, h2⟩ := Prod.mk.inj (Option.some.inj hs)
    have e1 := List.eq_nil_of_length_eq_zero h1.symm
    have e2 := List.eq_nil_of_length_eq_zero h2.symm
    subst e1; subst e2
    exact ⟨.chainCount, rfl, rfl, trivial⟩
  rw [if_neg e] at hs
  clear e
  by_cases e : p = 5
  · rw [if_pos e] at hs
    subst e
    obtain ⟨h1, h2⟩ := Prod.mk.inj (Option.some.inj hs)
    obtain ⟨x, e1⟩ := len1 h1.symm
    have e2 := List.eq_nil_of_length_eq_zero h2.symm
    subst e1; subst e2
    exact ⟨.chain x, rfl, rfl, trivial⟩
  rw [if_neg e] at hs
  clear e
  by_cases e : p = 6
  · rw [if_pos e] at hs
    subst e
    obtain ⟨h1, h2⟩ := Prod.mk.inj (Option.some.inj hs)
    have e1 := List.eq_nil_of_length_eq_zero h1.symm
    have e2 := List.eq_nil_of_length_eq_zero h2.symm
    subst e1; subst e2
    exact ⟨.singleChainPossible, rfl, rfl, trivial⟩
  rw [if_neg e] at hs
  clear e
  by_cases e : p = 7
  · rw [if_pos e] at hs
    subst e
    obtain ⟨h1, h2⟩ := Prod.mk.inj (Option.some.inj hs)
    have e1 := List.eq_nil_of_length_eq_zero h1.symm
    have e2 := List.eq_nil_of_length_eq_zero h2.symm
    subst e1; subst e2
    exact ⟨.minChains, rfl, rfl, trivial⟩
  rw [if_neg e] at hs
  clear e
  by_cases e : p = 8
  · rw [if_pos e] at hs
    subst e
    obtain ⟨h1, h2⟩ := Prod.mk.inj (Option.some.inj hs)
    have e1 := List.eq_nil_of_length_eq_zero h1.symm
    have e2 := List.eq_nil_of_length_eq_zero h2.symm
    subst e1; subst e2
    exact ⟨.excesses, rfl, rfl, trivial⟩
  rw [if_neg e] at hs
  clear e
  by_cases e : p = 9
  · rw [if_pos e] at hs
    subst e
    obtain ⟨h1, h2⟩ := Prod.mk.inj (Option.some.inj hs)
    have e1 := List.eq_nil_of_length_eq_zero h1.symm
    have e2 := List.eq_nil_of_length_eq_zero h2.symm
    subst e1; subst e2
    exact ⟨.components, rfl, rfl, trivial⟩
  rw [if_neg e] at hs
  clear e
  by_cases e : p = 10
  · rw [if_pos e] at hs
    subst e
    obtain ⟨h1, h2⟩ := Prod.mk.inj (Option.some.inj hs)
    have e1 := List.eq_nil_of_length_eq_zero h1.symm
    have e2 := List.eq_nil_of_length_eq_zero h2.symm
    subst e1; subst e2
    exact ⟨.circuitCount, rfl, rfl, trivial⟩
  rw [if_neg e] at hs
  clear e
  by_cases e : p = 11
  · rw [if_pos e] at hs
    subst e
    obtain ⟨h1, h2⟩ := Prod.mk.inj (Option.some.inj hs)
    obtain ⟨x, e1⟩ := len1 h1.symm
    have e2 := List.eq_nil_of_length_eq_zero h2.symm
    subst e1; subst e2
    exact ⟨.circuit x, rfl, rfl, trivial⟩
  rw [if_neg e] at hs
  clear e
  by_cases e : p = 12
  · rw [if_pos e] at hs
    subst e
    obtain ⟨h1, h2⟩ := Prod.mk.inj (Option.some.inj hs)
    obtain ⟨x, e1⟩ := len1 h1.symm
    have e2 := List.eq_nil_of_length_eq_zero h2.symm
    subst e1; subst e2
    exact ⟨.treeCount x, rfl, rfl, trivial⟩
  rw [if_neg e] at hs
  clear e
  by_cases e : p = 13
  · rw [if_pos e] at hs
    subst e
    obtain ⟨h1, h2⟩ := Prod.mk.inj (Option.some.inj hs)
    have e1 := List.eq_nil_of_length_eq_zero h1.symm
    obtain ⟨r, e2⟩ := lenr h2.symm
    subst e1; subst e2
    have hb' : (PyInside.each [] ([] : List Int) && PyInside.lists [(-2147483648, 2147483647, 0, 70)] [r]) = true := hb
    unfold PyInside.lists at hb'
    rw [Bool.and_eq_true, Bool.and_eq_true, Bool.and_eq_true, Bool.and_eq_true] at hb'
    have := of_decide_eq_true hb'.2.1.1.2
    exact ⟨.checkChains r, rfl, by show 13 :: ([] ++ (((r.length : Int) :: r) ++ [])) = 13 :: (r.length : Int) :: r; rw [List.append_nil]; rfl, this⟩
  rw [if_neg e] at hs
  clear e
  by_cases e : p = 14
  · rw [if_pos e] at hs
    subst e
    obtain ⟨h1, h2⟩ := Prod.mk.inj (Option.some.inj hs)
    obtain ⟨x, e1⟩ := len1 h1.symm
    have e2 := List.eq_nil_of_length_eq_zero h2.symm
    subst e1; subst e2
    exact ⟨.chainsFrom x, rfl, rfl, trivial⟩
  rw [if_neg e] at hs
  clear e
  by_cases e : p = 15
  · rw [if_pos e] at hs
    subst e
    obtain ⟨h1, h2⟩ := Prod.mk.inj (Option.some.inj hs)
    obtain ⟨x, y, e1⟩ := len2 h1.symm
    have e2 := List.eq_nil_of_length_eq_zero h2.symm
    subst e1; subst e2
    exact ⟨.evaluateWithPiece x y, rfl, rfl, trivial⟩
  rw [if_neg e] at hs
  clear e
  by_cases e : p = 16
  · rw [if_pos e] at hs
    subst e
    obtain ⟨h1, h2⟩ := Prod.mk.inj (Option.some.inj hs)
    have e1 := List.eq_nil_of_length_eq_zero h1.symm
    have e2 := List.eq_nil_of_length_eq_zero h2.symm
    subst e1; subst e2
    exact ⟨.describe, rfl, rfl, trivial⟩
  rw [if_neg e] at hs
  clear e
  cases hs
theorem all_calls : ∀ raw : List (List (List Int)), (∀ c ∈ raw, PyFlat.okCall PySr115.shape c) → raw.all (PyInside.call PySr115.bound) = true → ∃ cs : List Cl115, cs.length = raw.length ∧ PyFlat.put raw = flatC cs ∧ (∀ c ∈ cs, rowOk c) ∧ ∀ s, PyFlat.played Sr115Neutral.step s (raw.map PySr115.whole) = playC s cs
  | [], _, _ => ⟨[], rfl, rfl, (fun c hc => by cases hc), fun s => rfl⟩
  | c :: raw, h, hb => by
    rw [List.all_cons, Bool.and_eq_true] at hb
    obtain ⟨cs, h0, h1, h2, h3⟩ := all_calls raw (fun d hd => h d (List.mem_cons_of_mem _ hd)) hb.2
    obtain ⟨d, g1, g2, g3⟩ := one_call (h c List.mem_cons_self) hb.1
    refine ⟨d :: cs, by rw [List.length_cons, List.length_cons, h0], ?_, fun x hx => ?_, fun s => ?_⟩
    · show PyFlat.put1 c ++ PyFlat.put raw = encC d ++ flatC cs
      rw [g2, h1]
    · rcases List.mem_cons.mp hx with e | hx
      · rw [e]
        exact g3
      · exact h2 x hx
    · have e : Sr115Neutral.step s (PySr115.whole c) = ((Sr115.step s d).1, resL (Sr115.step s d).2) := by
        unfold Sr115Neutral.step
        rw [g1]
        rfl
      show (Sr115Neutral.step s (PySr115.whole c)).2 :: PyFlat.played Sr115Neutral.step (Sr115Neutral.step s (PySr115.whole c)).1 (raw.map PySr115.whole) = resL (Sr115.step s d).2 :: playC (Sr115.step s d).1 cs
      rw [e, h3]
theorem asked_calls {l : List Int} (h : PySr115.answers_asked l = true) : ∃ cs : List Cl115, cs.length ≤ 60 ∧ l = flatC cs ∧ (∀ c ∈ cs, rowOk c) ∧ PySr115.answers l = toldC cs := by
  unfold PySr115.answers_asked at h
  cases e : PyFlat.calls PySr115.shape l.length l with
  | none => rw [e] at h; cases h
  | some raw =>
    rw [e] at h
    have h' : (!raw.isEmpty && PyFlat.atMost 60 raw && PyInside.calls PySr115.bound raw && Sr115Neutral.asked (raw.map PySr115.whole) && PyFlat.short 10000000 (PySr115.answers l)) = true := h
    rw [Bool.and_eq_true, Bool.and_eq_true, Bool.and_eq_true, Bool.and_eq_true] at h'
    obtain ⟨⟨⟨⟨_, h1⟩, h2⟩, _⟩, _⟩ := h'
    obtain ⟨q1, q2⟩ := PyFlat.put_calls _ _ _ e
    obtain ⟨cs, g0, g1, g2, g3⟩ := all_calls raw q2 h2
    refine ⟨cs, by rw [g0]; exact of_decide_eq_true h1, q1.trans g1, g2, ?_⟩
    unfold PySr115.answers PySr115.calls
    rw [e]
    show PyFlat.told (PyFlat.played Sr115Neutral.step Sr115Neutral.start (raw.map PySr115.whole)) = _
    rw [g3]
    rfl
end BB
/-! what each call answers, and what it leaves -/
namespace BB
open Sr115 (Floor pieceAt Piece)
def Fok0 (f : Floor) : Prop := f.length ≤ 7 ∧ ∀ p ∈ f, p.left < 6 ∧ p.right < 6
def ansP (f : Floor) (c : Cl115) : List Int := resL (Sr115.perform f c).2
def newP (f : Floor) (c : Cl115) : Floor := (Sr115.perform f c).1.getD f
theorem step_some (f : Floor) (c : Cl115) (h : numOf c ≠ 0) : Sr115.step (some f) c = (some (newP f c), (Sr115.perform f c).2) := by
  have key : Sr115.step (some f) c = match Sr115.perform f c with
      | (some changed, result) => (some changed, result)
      | (none, result) => (some f, result) := by
    cases c
    case create => exact absurd rfl h
    all_goals rfl
  rw [key]
  unfold newP
  rcases Sr115.perform f c with ⟨o, r⟩
  cases o <;> rfl
theorem step_none (c : Cl115) (h : numOf c ≠ 0) : Sr115.step none c = (none, ⟨-11, []⟩) := by
  cases c
  case create => exact absurd rfl h
  all_goals rfl
theorem step_create (s : Sr115.State) : Sr115.step s .create = (some [], ⟨0, []⟩) := rfl
theorem num_zero {c : Cl115} (h : numOf c = 0) : c = .create := by
  cases c
  case create => rfl
  all_goals cases h
theorem mark_iff (m : Int) : Sr115.isMark m = true ↔ 0 ≤ m ∧ m < 6 := by
  unfold Sr115.isMark SrCommon.isIndex
  rw [Bool.and_eq_true, decide_eq_true_eq, decide_eq_true_eq]
  rfl
theorem index_iff (i : Int) (n : Nat) : SrCommon.isIndex i n = true ↔ 0 ≤ i ∧ i < n := by
  unfold SrCommon.isIndex
  rw [Bool.and_eq_true, decide_eq_true_eq, decide_eq_true_eq]
/-! ### add_piece -/
theorem add_bad {f : Floor} {l r : Int} (h : (Sr115.isMark l && Sr115.isMark r) = false) : Sr115.perform f (.addPiece l r) = (none, ⟨-22, []⟩) := by
  refine if_pos ?_
  cases a : Sr115.isMark l
  · exact .inl rfl
  · rw [a] at h
    exact .inr h
theorem add_full {f : Floor} {l r : Int} (h : (Sr115.isMark l && Sr115.isMark r) = true) (h7 : 7 ≤ f.length) : Sr115.perform f (.addPiece l r) = (none, ⟨-28, []⟩) := by
  rw [Bool.and_eq_true] at h
  refine (if_neg ?_).trans (if_pos h7)
  rw [h.1, h.2]
  decide
theorem add_ok {f : Floor} {l r : Int} (h : (Sr115.isMark l && Sr115.isMark r) = true) (h7 : ¬ 7 ≤ f.length) : Sr115.perform f (.addPiece l r) = (some (f ++ [⟨l.toNat, r.toNat⟩]), ⟨(f.length : Int), []⟩) := by
  rw [Bool.and_eq_true] at h
  refine (if_neg ?_).trans (if_neg h7)
  rw [h.1, h.2]
  decide
/-! ### remove_piece, set_piece -/
theorem rem_bad {f : Floor} {i : Int} (h : Sr115.isPiece f i = false) : Sr115.perform f (.removePiece i) = (none, ⟨-2, []⟩) := if_pos h
theorem rem_ok {f : Floor} {i : Int} (h : Sr115.isPiece f i = true) : Sr115.perform f (.removePiece i) = (some (f.eraseIdx i.toNat), ⟨((f.length - 1 : Nat) : Int), []⟩) := if_neg (by rw [h]; decide)
theorem set_bad {f : Floor} {i l r : Int} (h : Sr115.isPiece f i = false) : Sr115.perform f (.setPiece i l r) = (none, ⟨-2, []⟩) := if_pos h
theorem set_bad2 {f : Floor} {i l r : Int} (h : Sr115.isPiece f i = true) (h2 : (Sr115.isMark l && Sr115.isMark r) = false) : Sr115.perform f (.setPiece i l r) = (none, ⟨-22, []⟩) := by
  refine (if_neg (by rw [h]; decide)).trans (if_pos ?_)
  cases a : Sr115.isMark l
  · exact .inl rfl
  · rw [a] at h2
    exact .inr h2
theorem set_ok {f : Floor} {i l r : Int} (h : Sr115.isPiece f i = true) (h2 : (Sr115.isMark l && Sr115.isMark r) = true) : Sr115.perform f (.setPiece i l r) = (some (f.set i.toNat ⟨l.toNat, r.toNat⟩), ⟨0, [((pieceAt f i.toNat).left : Int), ((pieceAt f i.toNat).right : Int)]⟩) := by
  rw [Bool.and_eq_true] at h2
  refine (if_neg (by rw [h]; decide)).trans (if_neg ?_)
  rw [h2.1, h2.2]
  decide
/-! ### lists told by a number -/
theorem elem_bad {L : List (List Nat)} {k : Int} (h : SrCommon.isIndex k L.length = false) : Sr115.elementResult L k = ⟨-2, []⟩ := by
  unfold Sr115.elementResult
  by_cases c : k < 0
  · rw [if_pos c]
    rfl
  · rw [if_neg c]
    have h' : ¬ (0 ≤ k ∧ k < L.length) := fun z => by
      rw [(index_iff k L.length).mpr z] at h
      cases h
    rw [List.getElem?_eq_none (by omega)]
    rfl
theorem elem_ok {L : List (List Nat)} {k : Int} (h : SrCommon.isIndex k L.length = true) : ∃ r, L[k.toNat]? = some r ∧ Sr115.elementResult L k = ⟨(r.length : Int), SrCommon.natsToInts r⟩ := by
  obtain ⟨h1, h2⟩ := (index_iff k L.length).mp h
  refine ⟨_, List.getElem?_eq_getElem (show k.toNat < L.length by omega), ?_⟩
  unfold Sr115.elementResult
  rw [if_neg (by omega), List.getElem?_eq_getElem (show k.toNat < L.length by omega)]
  rfl
/-! ### check_chains -/
def badB (f : Floor) (ns : List Int) : Bool := ns.any fun x => x != -1 && !Sr115.isPiece f x
theorem bad_eq (f : Floor) (ns : List Int) : ((Sr115.splitChains ns).any fun r => r.any fun i => !Sr115.isPiece f i) = badB f ns := by
  have h : ((Sr115.splitChains ns).any fun r => r.any fun i => !Sr115.isPiece f i) = ((Sr115.splitChains ns).flatten).any fun i => !Sr115.isPiece f i := (List.any_flatten).symm
  rw [h, split_flat, List.any_filter]
  rfl
theorem check_bad {f : Floor} {ns : List Int} (h : ns = [] ∨ badB f ns = true) : Sr115.perform f (.checkChains ns) = (none, ⟨-22, []⟩) := by
  have e : (ns = [] ∨ (Sr115.splitChains ns).any (fun r => r.any fun i => !Sr115.isPiece f i) = true) := by
    rw [bad_eq]
    exact h
  show (none, if ns = [] ∨ (Sr115.splitChains ns).any (fun r => r.any fun i => !Sr115.isPiece f i) = true then _ else _) = _
  rw [if_pos e]
  rfl
theorem check_ok {f : Floor} {ns : List Int} (h : ns ≠ []) (hb : badB f ns = false) : Sr115.perform f (.checkChains ns) = (none, ⟨SrCommon.boolToInt (laysB f ns), [((Sr115.splitChains ns).length : Int)]⟩) := by
  have e : ¬ (ns = [] ∨ (Sr115.splitChains ns).any (fun r => r.any fun i => !Sr115.isPiece f i) = true) := by
    rw [bad_eq, hb]
    rintro (z | z)
    · exact h z
    · cases z
  show (none, if ns = [] ∨ (Sr115.splitChains ns).any (fun r => r.any fun i => !Sr115.isPiece f i) = true then _ else _) = _
  rw [if_neg e, ← lays_eq f ns]
  intro x hx
  by_cases c : x = -1
  · exact .inl c
  · have q : ¬ (ns.any fun x => x != -1 && !Sr115.isPiece f x) = true := by
      show ¬ badB f ns = true
      rw [hb]
      decide
    have p : Sr115.isPiece f x = true := by
      cases z : Sr115.isPiece f x with
      | true => rfl
      | false =>
        refine absurd (List.any_eq_true.mpr ⟨x, hx, ?_⟩) q
        rw [z, Bool.and_eq_true]
        exact ⟨by simpa using c, rfl⟩
    exact .inr ((index_iff x f.length).mp p)
/-! ### the floor stays one -/
theorem new_ok {f : Floor} (h : Fok0 f) (c : Cl115) : Fok0 (newP f c) := by
  unfold newP
  cases c with
  | addPiece l r =>
    cases a : (Sr115.isMark l && Sr115.isMark r) with
    | false => rw [add_bad a]; exact h
    | true =>
      by_cases b : 7 ≤ f.length
      · rw [add_full a b]; exact h
      · rw [add_ok a b]
        rw [Bool.and_eq_true, mark_iff, mark_iff] at a
        refine ⟨by show (f ++ [_]).length ≤ 7; rw [List.length_append]; show f.length + 1 ≤ 7; omega, fun p hp => ?_⟩
        rcases List.mem_append.mp hp with hp | hp
        · exact h.2 p hp
        · rw [List.mem_singleton] at hp
          subst hp
          exact ⟨by show l.toNat < 6; omega, by show r.toNat < 6; omega⟩
  | removePiece i =>
    cases a : Sr115.isPiece f i with
    | false => rw [rem_bad a]; exact h
    | true =>
      rw [rem_ok a]
      refine ⟨?_, fun p hp => h.2 p ((List.eraseIdx_sublist f i.toNat).mem hp)⟩
      show (f.eraseIdx i.toNat).length ≤ 7
      have := (List.eraseIdx_sublist f i.toNat).length_le
      have := h.1
      omega
  | setPiece i l r =>
    cases a : Sr115.isPiece f i with
    | false => rw [set_bad a]; exact h
    | true =>
      cases b : (Sr115.isMark l && Sr115.isMark r) with
      | false => rw [set_bad2 a b]; exact h
      | true =>
        rw [set_ok a b]
        rw [Bool.and_eq_true, mark_iff, mark_iff] at b
        refine ⟨by show (f.set _ _).length ≤ 7; rw [List.length_set]; exact h.1, fun p hp => ?_⟩
        rcases List.mem_or_eq_of_mem_set hp with hp | hp
        · exact h.2 p hp
        · subst hp
          exact ⟨by show l.toNat < 6; omega, by show r.toNat < 6; omega⟩
  | create => exact h
  | chainCount => exact h
  | chain k => exact h
  | singleChainPossible => exact h
  | minChains => exact h
  | excesses => exact h
  | components => exact h
  | circuitCount => exact h
  | circuit k => exact h
  | treeCount m => exact h
  | checkChains ns => exact h
  | chainsFrom m => exact h
  | evaluateWithPiece l r => exact h
  | describe => exact h
/-! ### how long an answer is -/
theorem circuits_row {f : Floor} {r : List Nat} (h : r ∈ Sr115.circuits f) : r.length = f.length ∧ ∀ x ∈ r, x < f.length := complete_row (List.mem_filter.mp h).1
theorem elem_len {L : List (List Nat)} {k : Int} {n : Nat} (h : ∀ r ∈ L, r.length = n) : (resL (Sr115.elementResult L k)).length ≤ n + 1 := by
  cases a : SrCommon.isIndex k L.length with
  | false =>
    rw [elem_bad a]
    show 1 ≤ n + 1
    omega
  | true =>
    obtain ⟨r, h1, h2⟩ := elem_ok a
    rw [h2]
    show (SrCommon.natsToInts r).length + 1 ≤ n + 1
    unfold SrCommon.natsToInts
    rw [List.length_map, h r (List.mem_of_getElem? h1)]
    exact Nat.le_refl _
theorem ans_len {f : Floor} (h : Fok0 f) (c : Cl115) : (ansP f c).length ≤ 15 := by
  have h7 := h.1
  unfold ansP
  cases c with
  | addPiece l r =>
    cases a : (Sr115.isMark l && Sr115.isMark r) with
    | false => rw [add_bad a]; show 1 ≤ 15; decide
    | true =>
      by_cases b : 7 ≤ f.length
      · rw [add_full a b]; show 1 ≤ 15; decide
      · rw [add_ok a b]; show 1 ≤ 15; decide
  | removePiece i =>
    cases a : Sr115.isPiece f i with
    | false => rw [rem_bad a]; show 1 ≤ 15; decide
    | true => rw [rem_ok a]; show 1 ≤ 15; decide
  | setPiece i l r =>
    cases a : Sr115.isPiece f i with
    | false => rw [set_bad a]; show 1 ≤ 15; decide
    | true =>
      cases b : (Sr115.isMark l && Sr115.isMark r) with
      | false => rw [set_bad2 a b]; show 1 ≤ 15; decide
      | true => rw [set_ok a b]; show 3 ≤ 15; decide
  | create => show 1 ≤ 15; decide
  | chainCount => show 1 ≤ 15; decide
  | chain k =>
    have q := elem_len (k := k) (L := Sr115.completeChains f) (n := f.length) fun r hr => (complete_row hr).1
    exact Nat.le_trans q (by omega)
  | singleChainPossible => show 1 ≤ 15; decide
  | minChains => show 1 ≤ 15; decide
  | excesses =>
    show ((List.range 6).map _).length + 1 ≤ 15
    rw [List.length_map]
    decide
  | components =>
    show (SrCommon.natsToInts (Sr115.components f)).length + 1 ≤ 15
    unfold SrCommon.natsToInts
    rw [List.length_map]
    have q := (used_nodup f)
    have h1 : (Sr115.components f).length ≤ (Sr115.usedMarks f).length := List.length_filter_le _ _
    have h2 := good_len (s := Sr115.usedMarks f) ⟨q, fun x hx => used_lt hx⟩
    omega
  | circuitCount => show 2 ≤ 15; decide
  | circuit k =>
    have q := elem_len (k := k) (L := Sr115.circuits f) (n := f.length) fun r hr => (circuits_row hr).1
    exact Nat.le_trans q (by omega)
  | treeCount m =>
    show (resL (if Sr115.isMark m = false then _ else if (Sr115.usedMarks f).contains m.toNat = false then _ else _)).length ≤ 15
    split
    · show 1 ≤ 15; decide
    · split
      · show 1 ≤ 15; decide
      · show 1 ≤ 15; decide
  | checkChains ns =>
    by_cases a : ns = [] ∨ badB f ns = true
    · rw [check_bad a]; show 1 ≤ 15; decide
    · rw [check_ok (fun z => a (.inl z)) (by cases z : badB f ns with | false => rfl | true => exact absurd (.inr z) a)]
      show 2 ≤ 15; decide
  | chainsFrom m =>
    show (resL (if Sr115.isMark m = false then _ else _)).length ≤ 15
    split
    · show 1 ≤ 15; decide
    · show 1 ≤ 15; decide
  | evaluateWithPiece l r =>
    show (resL (if Sr115.isMark l = false ∨ Sr115.isMark r = false then _ else if Sr115.maxPieces ≤ f.length then _ else _)).length ≤ 15
    split
    · show 1 ≤ 15; decide
    · split
      · show 1 ≤ 15; decide
      · show 2 ≤ 15; decide
  | describe =>
    show (f.flatMap fun p => [(p.left : Int), (p.right : Int)]).length + 1 ≤ 15
    have q := flatMap_len (fun p : Piece => [(p.left : Int), (p.right : Int)]) 2 f fun p _ => by show 2 ≤ 2; decide
    omega
/-! ### the states that are reached -/
theorem st_ok : ∀ (n : Nat) (cs : List Cl115), cs.length = n → ∀ f, stAfter cs = some f → Fok0 f
  | 0, cs, hn, f, h => by
    have e : cs = [] := List.eq_nil_of_length_eq_zero hn
    subst e
    cases h
  | n + 1, cs', hn, f, h => by
    have ne : cs' ≠ [] := fun z => by rw [z] at hn; cases hn
    obtain ⟨cs, c, rfl⟩ : ∃ cs c, cs' = cs ++ [c] := ⟨cs'.dropLast, cs'.getLast ne, (List.dropLast_concat_getLast ne).symm⟩
    have ih := st_ok n cs (by rw [List.length_append] at hn; exact Nat.succ.inj hn)
    rw [st_app] at h
    by_cases z : numOf c = 0
    · rw [num_zero z, step_create] at h
      have e : f = [] := (Option.some.inj h).symm
      subst e
      exact ⟨Nat.zero_le _, fun p hp => by cases hp⟩
    · cases e : stAfter cs with
      | none =>
        rw [e, step_none c z] at h
        cases h
      | some g =>
        rw [e, step_some g c z] at h
        have e2 : f = newP g c := (Option.some.inj h).symm
        rw [e2]
        exact new_ok (ih g e) c
theorem res_len (cs : List Cl115) (c : Cl115) : (resL (Sr115.step (stAfter cs) c).2).length ≤ 15 := by
  by_cases z : numOf c = 0
  · rw [num_zero z, step_create]
    show 1 ≤ 15; decide
  · cases e : stAfter cs with
    | none =>
      rw [step_none c z]
      show 1 ≤ 15; decide
    | some g =>
      rw [step_some g c z]
      exact ans_len (st_ok _ cs rfl g e) c
theorem told_len : ∀ (n : Nat) (cs : List Cl115), cs.length = n → (toldC cs).length ≤ 16 * n
  | 0, cs, hn => by
    have e : cs = [] := List.eq_nil_of_length_eq_zero hn
    subst e
    exact Nat.le_refl _
  | n + 1, cs', hn => by
    have ne : cs' ≠ [] := fun z => by rw [z] at hn; cases hn
    obtain ⟨cs, c, rfl⟩ : ∃ cs c, cs' = cs ++ [c] := ⟨cs'.dropLast, cs'.getLast ne, (List.dropLast_concat_getLast ne).symm⟩
    have ih := told_len n cs (by rw [List.length_append] at hn; exact Nat.succ.inj hn)
    have q := res_len cs c
    rw [told_app, List.length_append, List.length_cons]
    omega
theorem enc_len {c : Cl115} (h : rowOk c) : (encC c).length ≤ 72 := by
  cases c with
  | checkChains r =>
    show r.length + 1 + 1 ≤ 72
    have : r.length ≤ 70 := h
    omega
  | _ => show _ + 1 ≤ 72; simp [argOf]
end BB
namespace BB
open PySem PySem.Spec PyProof.Rows L2 Evl
open Sr115 (Floor pieceAt Piece)
section
variable {α β : Type} {K : PySem.W.Frag} {σ : L2.St} {H : Hp} {te tl ta tb : TE} {t : TT} {D : Ends} {tu tz : TS}
/-- a loop over a new list of objects: all told -/
theorem s_forNB {o : β → HO} {l : List β} {j : Nat} (h : EvB o tl σ H l) (k : ∀ p zs H1, H p = none → Ex H H1 → H1 p = some (.lst (refs zs)) → zs.map (·.2) = l → (∀ z ∈ zs, H1 z.1 = some (o z.2)) →
    ∃ Pv : Nat → L2.St → Hp → Prop, Pv 0 σ H1 ∧ (∀ i σ' H', Pv i σ' H' → H' p = some (.lst (refs zs))) ∧ (∀ i z σ' H', zs[i]? = some z → Pv i σ' H' → tu { D with nx := Pv (i + 1), ct := Pv (i + 1), bk := D.nx } (σ'.set j (some (.ref z.1))) H') ∧ ∀ σ' H', Pv l.length σ' H' → D.nx σ' H') :
    tFor (iList K tl) (gName j) tu D σ H := h H (Ex.refl H) _ fun p H1 hp e hO => by
  obtain ⟨zs, h1, h2, h3⟩ := hO
  obtain ⟨Pv, p0, p1, p2, p3⟩ := k p zs H1 hp e h1 h2 h3
  refine ⟨p, rfl, ⟨refs zs, sq_of h1⟩, for_list Pv p0 (fun i σ' H' _ q => sq_of (p1 i σ' H' q)) (fun i x σ' H' hx q => ?_) fun σ' H' q => ?_⟩
  · unfold refs at hx
    rw [List.getElem?_map] at hx
    cases hz : zs[i]? with
    | none => rw [hz] at hx; cases hx
    | some z =>
      rw [hz] at hx
      have ex : x = V.ref z.1 := (Option.some.inj hx).symm
      subst ex
      exact p2 i z σ' H' hz q
  · have e2 : (refs zs).length = l.length := objs_len h2
    rw [e2] at q
    exact p3 σ' H' q
theorem q_forNB {o : β → HO} {l : List β} {j : Nat} (h : EvB o tl σ H l) (k : ∀ p zs H1, H p = none → Ex H H1 → H1 p = some (.lst (refs zs)) → zs.map (·.2) = l → (∀ z ∈ zs, H1 z.1 = some (o z.2)) →
    ∃ Pv : Nat → L2.St → Hp → Prop, Pv 0 σ H1 ∧ (∀ i σ' H', Pv i σ' H' → H' p = some (.lst (refs zs))) ∧ (∀ i z σ' H', zs[i]? = some z → Pv i σ' H' → tu { D with nx := Pv (i + 1), ct := Pv (i + 1), bk := tz D } (σ'.set j (some (.ref z.1))) H') ∧ ∀ σ' H', Pv l.length σ' H' → tz D σ' H') :
    tSeq (tFor (iList K tl) (gName j) tu) tz D σ H := s_forNB (D := { D with nx := tz D }) h k
/-- two names for a piece -/
theorem g_pair {i j : Nat} {q : Addr} {p : Piece} {Q : L2.St → Hp → Prop} (h : H q = some (tupO p)) (k : Q ((σ.set i (some (.int (p.left : Int)))).set j (some (.int (p.right : Int)))) H) : gTup K 2 (gCons (gName i) (gCons (gName j) gNil)) (.ref q) σ H Q :=
  ⟨q, pV p, rfl, st_of h, rfl, _, _, rfl, _, _, rfl, rfl, k⟩
/-- a loop over pieces, left and right named -/
theorem s_forF {a : Addr} {f : Floor} {x y : Nat} {H0 : Hp} (h : Ev tl σ H (.ref a)) (hF : Fl H0 a f) (Pv : Nat → L2.St → Hp → Prop) (h0 : ∀ H1, Ex H H1 → Pv 0 σ H1) (hE : ∀ i σ' H', Pv i σ' H' → Ex H0 H') (hH : Ex H0 H)
    (hs : ∀ i p σ' H', f[i]? = some p → Pv i σ' H' → tu { D with nx := Pv (i + 1), ct := Pv (i + 1), bk := D.nx } ((σ'.set x (some (.int (p.left : Int)))).set y (some (.int (p.right : Int)))) H') (hd : ∀ σ' H', Pv f.length σ' H' → D.nx σ' H') :
    tFor (iList K tl) (gTup K 2 (gCons (gName x) (gCons (gName y) gNil))) tu D σ H := by
  obtain ⟨zs, h1, h2, h3⟩ := hF
  refine s_forL (a := a) (xs := refs zs) h (sq_of (hH _ _ h1)) Pv h0 (fun i σ' H' _ q => sq_of (hE i σ' H' q _ _ h1)) (fun i v σ' H' hv q => ?_) fun σ' H' q => ?_
  · unfold refs at hv
    rw [List.getElem?_map] at hv
    cases hz : zs[i]? with
    | none => rw [hz] at hv; cases hv
    | some z =>
      rw [hz] at hv
      have ex : v = V.ref z.1 := (Option.some.inj hv).symm
      subst ex
      have hl : f[i]? = some z.2 := by
        rw [← h2, List.getElem?_map, hz]
        rfl
      exact g_pair (hE i σ' H' q _ _ (h3 z (List.mem_of_getElem? hz))) (hs i z.2 σ' H' hl q)
  · have e2 : (refs zs).length = f.length := objs_len h2
    rw [e2] at q
    exact hd σ' H' q
theorem q_forF {a : Addr} {f : Floor} {x y : Nat} {H0 : Hp} (h : Ev tl σ H (.ref a)) (hF : Fl H0 a f) (Pv : Nat → L2.St → Hp → Prop) (h0 : ∀ H1, Ex H H1 → Pv 0 σ H1) (hE : ∀ i σ' H', Pv i σ' H' → Ex H0 H') (hH : Ex H0 H)
    (hs : ∀ i p σ' H', f[i]? = some p → Pv i σ' H' → tu { D with nx := Pv (i + 1), ct := Pv (i + 1), bk := tz D } ((σ'.set x (some (.int (p.left : Int)))).set y (some (.int (p.right : Int)))) H') (hd : ∀ σ' H', Pv f.length σ' H' → tz D σ' H') :
    tSeq (tFor (iList K tl) (gTup K 2 (gCons (gName x) (gCons (gName y) gNil))) tu) tz D σ H := s_forF (D := { D with nx := tz D }) h hF Pv h0 hE hH hs hd
/-- xs[i] op= e -/
theorem s_augS {l : Addr} {xs : List V} {j : Nat} {a b : Int} {g : Int → Int → Int} {to ti : TE} (hl : H l = some (.lst xs)) (ho : Ev to σ H (.ref l)) (hi : Ev ti σ H (.int (j : Int))) (hx : xs[j]? = some (.int a)) (he : Ev te σ H (.int b)) (k : ∀ H1, Ex H H1 → D.nx σ (upd H1 l (.lst (xs.set j (.int (g a b)))))) :
    tAugS to ti te (rIxL K) (ipI g) rSetL D σ H := ho H (Ex.refl H) _ fun H1 e1 => hi H1 e1 _ fun H2 e2 =>
  ⟨l, xs, (j : Int), .int a, rfl, rfl, sq_of ((e1.trans e2) _ _ hl), atI_nat hx, he H2 (e1.trans e2) _ fun H3 e3 => ⟨a, b, rfl, rfl, l, xs, (j : Int), j, rfl, rfl, ((e1.trans e2).trans e3) _ _ hl, ixN_nat (List.getElem?_eq_some_iff.mp hx).1, k H3 ((e1.trans e2).trans e3)⟩⟩
theorem q_augS {l : Addr} {xs : List V} {j : Nat} {a b : Int} {g : Int → Int → Int} {to ti : TE} (hl : H l = some (.lst xs)) (ho : Ev to σ H (.ref l)) (hi : Ev ti σ H (.int (j : Int))) (hx : xs[j]? = some (.int a)) (he : Ev te σ H (.int b)) (k : ∀ H1, Ex H H1 → tz D σ (upd H1 l (.lst (xs.set j (.int (g a b)))))) :
    tSeq (tAugS to ti te (rIxL K) (ipI g) rSetL) tz D σ H := s_augS (D := { D with nx := tz D }) hl ho hi hx he k
theorem iVn (l : List Nat) : iV (nI l) = l.map fun (n : Nat) => V.int (n : Int) := by
  unfold iV nI
  rw [List.map_map]
  rfl
theorem filt_all (l : List α) : l.filter (fun _ => true) = l := List.filter_eq_self.mpr fun _ _ => rfl
theorem iV_set (l : List Int) (i : Nat) (x : Int) : (iV l).set i (.int x) = iV (l.set i x) := (List.map_set).symm
end
/-! ### promises whose arguments are lists -/
theorem Fok0.ends {f : Floor} (h : Fok f) : MEnds f := h.2
theorem split_len {ns r : List Int} (h : r ∈ Sr115.splitChains ns) : r.length ≤ ns.length := by
  have h1 : r.length ≤ (Sr115.splitChains ns).flatten.length := (List.sublist_flatten_of_mem h).length_le
  rw [split_flat] at h1
  exact Nat.le_trans h1 (List.length_filter_le _ _)
end BB
namespace BB
open PySem PySem.Spec PyProof.Rows L2 Evl
open Sr115 (Floor pieceAt Piece)
section
variable {P : Program} {w : World} {K : PySem.W.Frag} {mg : Str → Option Value} {base : Heap}
/-! ### lays_all_pieces -/
abbrev s_lays_all_pieces : Stmt := topS 11
theorem sc_lays_all_pieces : FnScope ["pieces", "numbers", "laid"] ["pieces", "numbers"] (defScope s_lays_all_pieces) := ⟨rfl, rfl, rfl, by decide +kernel, rfl, by decide +kernel, by decide +kernel⟩

def okPart (f : Floor) (r : List Int) : Bool := !decide (r = []) && chainB f (SrCommon.intsToNats r)
theorem lays_part (f : Floor) (ns : List Int) : laysB f ns = ((Sr115.splitChains ns).all (okPart f) && holdsB f.length ns) := rfl
def preLays (x : Hol) (H : Hp) : Prop := Fl H x.a x.f ∧ SqL K H x.b (iV x.ns) ∧ x.f.length ≤ 7 ∧ x.ns.length ≤ 70 ∧ ∀ n ∈ x.ns, n = -1 ∨ (0 ≤ n ∧ n < x.f.length)
theorem mono_lays : Mono (preLays (K := K)) := fun x H H' e h => ⟨h.1.mono e, ex_l e h.2.1, h.2.2⟩
def spLays (K : PySem.W.Frag) : Sp := SV (fun x : Hol => [.ref x.a, .ref x.b]) (preLays (K := K)) (fun x => .bl (laysB x.f x.ns))
theorem back_nats {r : List Int} (h : ∀ x ∈ r, 0 ≤ x) : nI (SrCommon.intsToNats r) = r := by
  unfold nI SrCommon.intsToNats
  rw [List.map_map]
  conv => rhs; rw [← List.map_id r]
  refine List.map_congr_left fun x hx => ?_
  have := h x hx
  show ((x.toNat : Nat) : Int) = x
  omega
theorem ok_lays (F : Top K mg "lays_all_pieces" s_lays_all_pieces ["pieces", "numbers"]) (T : Txt K mg) (D_separated_lists : Def P w K mg base "separated_lists" 1 ["numbers"] (spSep K)) (D_is_chain : Def P w K mg base "is_chain" 2 ["pieces", "numbers"] (spIsCh K)) (D_holds_each_piece_once : Def P w K mg base "holds_each_piece_once" 1 ["pieces", "numbers"] (spHol K)) :
    Def P w K mg base "lays_all_pieces" 3 ["pieces", "numbers"] (spLays K) := by
  refine Def.of F sc_lays_all_pieces (fun vs H Q E h => ?_) (fun ff cdv A outer s H vs Q E hr h => ?_)
  · obtain ⟨x, rfl, _⟩ := h
    rfl
  · obtain ⟨⟨a, b, f, ns⟩, rfl, ⟨hF, hb, h7, h70, hin⟩, k⟩ := h
    replace hF : Fl H a f := hF
    replace hb : SqL K H b (iV ns) := hb
    replace h70 : ns.length ≤ 70 := h70
    replace h7 : f.length ≤ 7 := h7
    replace hin : ∀ n ∈ ns, n = -1 ∨ (0 ≤ n ∧ n < f.length) := hin
    replace k : RetV (.bl (laysB f ns)) H Q := k
    refine ⟨_, (pss_cons (ps_for PassesOwn.never rfl (pi_listK (K := K) (pe_callD D_separated_lists (hr.mono (by decide)) rfl (pa_cons (pv 1) pa_nil))) (pg_name (i := 2) sc_lays_all_pieces.nd rfl (Or.inl rfl)) (pss_one (ps_if (PW.pt (pw_or (pt_cmpR op_eq (pe_callB call_len_seq (by rfl) T.len PySem.boot_len (pa_cons (pv 2) pa_nil)) pe_int (nomark _)) (pw_or1 (pt_not (pt_val (pe_callD D_is_chain (hr.mono (by decide)) rfl (pa_cons (pv 0) (pa_cons (pv 2) pa_nil)))))))) (pss_one (ps_ret pe_bl)) pss_nil)))
      (pss_one (ps_ret (pe_callD D_holds_each_piece_once (hr.mono (by decide)) rfl (pa_cons (pv 0) (pa_cons (pv 1) pa_nil)))))), ?_⟩
    refine q_forNB (eb_SB mono_ns ⟨b, ns⟩ (ea_cons (ev_var rfl) ea_nil) ⟨hb, h70⟩) fun p zs H1 hp e1 g1 g2 g3 => ?_
    refine ⟨fun i σ' H' => ∃ v2, σ' = [some (.ref a), some (.ref b), v2] ∧ Ex H1 H' ∧ ((Sr115.splitChains ns).take i).all (okPart f) = true, ⟨none, rfl, Ex.refl H1, rfl⟩, fun i σ' H' q => ?_, fun i z σ' H' hz q => ?_, fun σ' H' q => ?_⟩
    · obtain ⟨_, _, ee, _⟩ := q
      exact ee _ _ g1
    · obtain ⟨v2, rfl, ee, hall⟩ := q
      have hq := ee _ _ (g3 z (List.mem_of_getElem? hz))
      have hl : (Sr115.splitChains ns)[i]? = some z.2 := by
        rw [← g2, List.getElem?_map, hz]
        rfl
      obtain ⟨q, r⟩ := z
      replace hl : (Sr115.splitChains ns)[i]? = some r := hl
      replace hq : H' q = some (lstO r) := hq
      have hm : r ∈ Sr115.splitChains ns := List.mem_of_getElem? hl
      have hpos : ∀ x ∈ r, 0 ≤ x ∧ x < f.length := fun x hx => by
        obtain ⟨m1, m2⟩ := split_mem ns r hm x hx
        exact (hin x m1).resolve_left m2
      have hback := back_nats fun x hx => (hpos x hx).1
      have hlen := split_len hm
      have hrn : (SrCommon.intsToNats r).length = r.length := by
        unfold SrCommon.intsToNats
        rw [List.length_map]
      have htake : (Sr115.splitChains ns).take (i + 1) = (Sr115.splitChains ns).take i ++ [r] := by
        rw [List.take_add_one, hl]
        rfl
      refine s_when (b := decide (r = []) || !chainB f (SrCommon.intsToNats r)) (et_or (a := decide (r = [])) (b := !chainB f (SrCommon.intsToNats r)) (et_test (ev_is (ev_op (ev_len (ev_var rfl) (sq_of hq)) ev_c (rv_eq rfl)) (congrArg V.bl ?_))) (fun c => et_not (et_B (ev_SV mono_isCh ⟨a, q, f, SrCommon.intsToNats r⟩ (ea_cons (ev_var rfl) (ea_cons (ev_var rfl) ea_nil)) ⟨hF.mono (e1.trans ee), ?_, ?_, ?_⟩)))) (fun c H2 e2 => ?_) (fun c H2 e2 => ?_)
      · rw [iV_len]
        exact (dec_nat _ 0).trans (by rw [Bool.eq_iff_iff, beq_iff_eq, decide_eq_true_eq, List.length_eq_zero_iff])
      · rw [hback]
        exact sq_of hq
      · intro j hj
        obtain ⟨x, hx, rfl⟩ := List.mem_map.mp hj
        have := hpos x hx
        show x.toNat < f.length
        omega
      · show (SrCommon.intsToNats r).length ≤ 70
        omega
      · refine s_ret ev_c fun H3 e3 => ?_
        have e : laysB f ns = false := by
          rw [lays_part]
          have : (Sr115.splitChains ns).all (okPart f) = false := by
            rw [List.all_eq_false]
            refine ⟨r, hm, ?_⟩
            unfold okPart
            rw [show (!decide (r = []) && chainB f (SrCommon.intsToNats r)) = !(decide (r = []) || !chainB f (SrCommon.intsToNats r)) by rw [Bool.not_or, Bool.not_not], c]
            decide
          rw [this]
          rfl
        exact e ▸ k H3 (((e1.trans ee).trans e2).trans e3)
      · refine ⟨_, rfl, ee.trans e2, ?_⟩
        rw [htake, List.all_append, hall, Bool.true_and]
        show (okPart f r && true) = true
        unfold okPart
        rw [Bool.and_true, show (!decide (r = []) && chainB f (SrCommon.intsToNats r)) = !(decide (r = []) || !chainB f (SrCommon.intsToNats r)) by rw [Bool.not_or, Bool.not_not], c]
        rfl
    · obtain ⟨v2, rfl, ee, hall⟩ := q
      rw [List.take_length] at hall
      refine s_ret (ev_SV mono_hol ⟨a, b, f, ns⟩ (ea_cons (ev_var rfl) (ea_cons (ev_var rfl) ea_nil)) ⟨hF.mono (e1.trans ee), ex_l (e1.trans ee) hb, h7, h70⟩) fun H3 e3 => ?_
      have e : laysB f ns = holdsB f.length ns := by
        rw [lays_part, hall]
        rfl
      exact e ▸ k H3 ((e1.trans ee).trans e3)
end
end BB
namespace BB
open PySem PySem.Spec PyProof.Rows L2 Evl
open Sr115 (Floor pieceAt Piece)
section
variable {P : Program} {w : World} {K : PySem.W.Frag} {mg : Str → Option Value} {base : Heap}
/-! ### is_mark -/
abbrev s_is_mark : Stmt := topS 14
theorem sc_is_mark : FnScope ["number"] ["number"] (defScope s_is_mark) := ⟨rfl, rfl, rfl, by decide +kernel, rfl, by decide +kernel, by decide +kernel⟩

def preTrue (x : Int) (H : Hp) : Prop := True
theorem mono_true : Mono preTrue := fun _ _ _ _ h => h
def spIsMark : Sp := SV (fun x : Int => [.int x]) preTrue (fun x => .bl (Sr115.isMark x))
theorem ok_is_mark (F : Top K mg "is_mark" s_is_mark ["number"]) (T : Txt K mg) : Def P w K mg base "is_mark" 1 ["number"] spIsMark := by
  refine Def.of F sc_is_mark (fun vs H Q E h => ?_) (fun ff cdv A outer s H vs Q E hr h => ?_)
  · obtain ⟨x, rfl, _⟩ := h
    rfl
  · obtain ⟨x, rfl, _, k⟩ := h
    obtain ⟨_, g_MARK_COUNT⟩ := T.c_MARK_COUNT
    
    refine ⟨_, (pss_one (ps_ret (pe_and (pe_cmpR op_le pe_int (pv 0) (nomark _)) (pe_one (pe_cmpR op_lt (pv 0) (pe_glob (v := .int (6)) rfl g_MARK_COUNT ⟨_, rfl⟩) (nomark _)))))), ?_⟩
    refine s_ret (v := .bl (Sr115.isMark x)) (ev_is (ev_andV (a := decide (0 ≤ x)) (b := decide (x < 6)) (ev_op ev_c (ev_var rfl) rv_I0) (fun _ => ev_op (ev_var rfl) ev_c rv_I0)) rfl) fun H2 e2 => k H2 e2
/-! ### excess_of_each_mark -/
abbrev s_excess_of_each_mark : Stmt := topS 15
theorem sc_excess_of_each_mark : FnScope ["pieces", "excesses", "left", "right"] ["pieces"] (defScope s_excess_of_each_mark) := ⟨rfl, rfl, rfl, by decide +kernel, rfl, by decide +kernel, by decide +kernel⟩

def spEx : Sp := SL (fun x : PF => [.ref x.a]) preF (fun x => iV (exM x.f))
theorem take_get {f : Floor} {i : Nat} {p : Piece} (h : f[i]? = some p) : f.take (i + 1) = f.take i ++ [p] := by
  rw [List.take_add_one, h]
  rfl
theorem ok_excess (F : Top K mg "excess_of_each_mark" s_excess_of_each_mark ["pieces"]) (T : Txt K mg) : Def P w K mg base "excess_of_each_mark" 1 ["pieces"] spEx := by
  refine Def.of F sc_excess_of_each_mark (fun vs H Q E h => ?_) (fun ff cdv A outer s H vs Q E hr h => ?_)
  · obtain ⟨x, rfl, _⟩ := h
    rfl
  · obtain ⟨⟨a, f⟩, rfl, ⟨hF, hk⟩, k⟩ := h
    replace hF : Fl H a f := hF
    replace hk : Fok f := hk
    replace k : RetL (iV (exM f)) H Q := k
    obtain ⟨_, g_MARK_COUNT⟩ := T.c_MARK_COUNT
    
    refine ⟨_, (pss_cons (ps_set (i := 1) sc_excess_of_each_mark.nd rfl (Or.inl rfl) (pe_op op_rep (pe_lst (pa_cons pe_int pa_nil)) (pe_glob (v := .int (6)) rfl g_MARK_COUNT ⟨_, rfl⟩)))
      (pss_cons (ps_for PassesOwn.never rfl (pi_listK (K := K) (pv 0)) (pg_tup rfl (pgs_cons (pg_name (i := 2) sc_excess_of_each_mark.nd rfl (Or.inl rfl)) (pgs_cons (pg_name (i := 3) sc_excess_of_each_mark.nd rfl (Or.inl rfl)) pgs_nil))) (pss_cons (ps_augS (pv 1) (pv 2) get_list pe_int ip_add set_list)
      (pss_one (ps_augS (pv 1) (pv 3) get_list pe_int ip_sub set_list))))
      (pss_one (ps_ret (pv 1))))), ?_⟩
    refine q_asgL (el_rep (es_L (el_lst (ea_cons ev_c ea_nil) (by show 1 ≤ 100000; decide))) ev_c (by decide) (by show 1 ≤ 1000; decide)) fun p H1 hp e1 h1 => ?_
    refine q_forF (H0 := H) (ev_var rfl) hF (fun i σ' H' => ∃ v2 v3, σ' = [some (.ref a), some (.ref p), v2, v3] ∧ Ex H H' ∧ H' p = some (.lst (iV (exM (f.take i))))) (fun H2 e2 => ⟨none, none, rfl, e1.trans e2, e2 _ _ h1⟩) (fun i σ' H' q => ?_) e1 (fun i pc σ' H' hpc q => ?_) (fun σ' H' q => ?_)
    · obtain ⟨_, _, _, ee, _⟩ := q
      exact ee
    · obtain ⟨v2, v3, rfl, ee, hx⟩ := q
      have hb := hk.2 pc (List.mem_of_getElem? hpc)
      refine q_augS hx (ev_var rfl) (ev_var rfl) (iV_get (exM_get hb.1)) ev_c fun H2 e2 => ?_
      have h2 : (upd H2 p (.lst ((iV (exM (f.take i))).set pc.left (.int (exAt (f.take i) pc.left + 1))))) p = some (.lst (iV (midM (f.take i) pc))) := by
        rw [upd_same, iV_set]
        rfl
      refine s_augS h2 (ev_var rfl) (ev_var rfl) (iV_get (mid_get hb.2)) ev_c fun H3 e3 => ?_
      refine ⟨_, _, rfl, Ex.mut ((Ex.mut (ee.trans e2) hp).trans e3) hp, ?_⟩
      rw [upd_same, iV_set, take_get hpc, ex_app]
    · obtain ⟨v2, v3, rfl, ee, hx⟩ := q
      rw [List.take_length] at hx
      exact s_ret (ev_var rfl) fun H3 e3 => k p H3 hp (ee.trans e3) (e3 _ _ hx)
/-! ### used_marks -/
abbrev s_used_marks : Stmt := topS 16
theorem sc_used_marks : FnScope ["pieces", "mark", "piece"] ["pieces"] (defScope s_used_marks) := ⟨rfl, rfl, rfl, by decide +kernel, rfl, by decide +kernel, by decide +kernel⟩

def spUsed : Sp := SL (fun x : PF => [.ref x.a]) preF (fun x => iV (nI (Sr115.usedMarks x.f)))
theorem in_pair (m : Nat) (p : Piece) : inV (.int (m : Int)) (pV p) = (p.left == m || p.right == m) := by
  have e : ∀ x y : Nat, eqV (.int (x : Int)) (.int (y : Int)) = (x == y) := fun x y => by
    show ((x : Int) == (y : Int)) = (x == y)
    rw [Bool.eq_iff_iff, beq_iff_eq, beq_iff_eq]
    omega
  show (eqV (.int (p.left : Int)) (.int (m : Int)) || (eqV (.int (p.right : Int)) (.int (m : Int)) || false)) = _
  rw [e, e, Bool.or_false]
theorem ok_used (F : Top K mg "used_marks" s_used_marks ["pieces"]) (T : Txt K mg) : Def P w K mg base "used_marks" 1 ["pieces"] spUsed := by
  refine Def.of F sc_used_marks (fun vs H Q E h => ?_) (fun ff cdv A outer s H vs Q E hr h => ?_)
  · obtain ⟨x, rfl, _⟩ := h
    rfl
  · obtain ⟨⟨a, f⟩, rfl, ⟨hF, hk⟩, k⟩ := h
    replace hF : Fl H a f := hF
    replace hk : Fok f := hk
    replace k : RetL (iV (nI (Sr115.usedMarks f))) H Q := k
    obtain ⟨_, g_MARK_COUNT⟩ := T.c_MARK_COUNT
    
    refine ⟨_, (pss_one (ps_ret (pe_lc (own := [("mark", 1)]) (g := gName 1) rfl sc_used_marks.nd (pi_range1 rfl T.range (pa_cons (pe_glob (v := .int (6)) rfl g_MARK_COUNT ⟨_, rfl⟩) pa_nil)) (blkOk_by (N := ["pieces", "mark", "piece"]) (sc := defScope s_used_marks) (by decide +kernel)) (fun _ _ _ _ _ => pg_name (i := 1) sc_used_marks.nd rfl (Or.inr rfl)) (fun _ _ _ _ _ => (pts_one (pt_val (pe_callB (cr_anyK (K := K) rfl) (by rfl) T.any (by decide +kernel) (pa_cons (pe_lc (own := [("piece", 2)]) (g := gName 2) rfl sc_used_marks.nd (pi_listK (K := K) (pv 0)) (blkOk_by (by rfl)) (fun _ _ _ _ _ => pg_name (i := 2) sc_used_marks.nd rfl (Or.inl rfl)) (fun _ _ _ _ _ => pts_nil) (fun _ _ _ _ _ => (pe_cmpR (op_in_seqK (K := K)) (pv 1) (pv 2) (by rfl)))) pa_nil))))) (fun _ _ _ _ _ => (pv 1))))), ?_⟩
    have e0 : (((List.range 6).filter (usedB f)).map fun m : Nat => V.int (m : Int)) = iV (nI (Sr115.usedMarks f)) := by rw [used_eq, iVn]
    refine s_retL (e0 ▸ el_lcR (n := 6) (usedB f) (fun m => .int (m : Int)) (ea_cons ev_c ea_nil) (by decide) (fun _ => rfl) (fun m H1 e1 hm => et_is (et_B (ev_any (bs := f.map fun p => p.left == m || p.right == m) (el_lcO (g := V.bl) f (fun p => p.left == m || p.right == m) (ev_var rfl) (hF.mono e1) (Nat.le_trans hk.1 (by decide)) (fun _ => rfl) (fun q p H2 e2 hp hq => ?_)))) ?_) (fun m H1 e1 hm _ => ev_var rfl)) fun p H2 hp e2 h2 => k p H2 hp e2 h2
    · exact ev_is (ev_op (ev_var rfl) (ev_var rfl) (rv_isT (st_of hq) rfl rfl)) (congrArg V.bl (in_pair m p))
    · rw [List.any_map]
      rfl
/-! ### joined -/
abbrev s_joined : Stmt := topS 17
theorem sc_joined : FnScope ["names", "one", "other", "smaller", "name"] ["names", "one", "other"] (defScope s_joined) := ⟨rfl, rfl, rfl, by decide +kernel, rfl, by decide +kernel, by decide +kernel⟩

structure Jn where
  a : Addr
  names : List Nat
  one : Nat
  two : Nat
def preJn (x : Jn) (H : Hp) : Prop := SqL K H x.a (iV (nI x.names)) ∧ x.names.length ≤ 6
theorem mono_jn : Mono (preJn (K := K)) := fun x H H' e h => ⟨ex_l e h.1, h.2⟩
def spJoin (K : PySem.W.Frag) : Sp := SL (fun x : Jn => [.ref x.a, .int (x.one : Int), .int (x.two : Int)]) (preJn (K := K)) (fun x => iV (nI (joinF x.names x.one x.two)))
theorem in_two (n a b : Nat) : inV (.int (n : Int)) [.int (a : Int), .int (b : Int)] = decide (n = a ∨ n = b) := by
  have e : ∀ x y : Nat, eqV (.int (x : Int)) (.int (y : Int)) = (x == y) := fun x y => by
    show ((x : Int) == (y : Int)) = (x == y)
    rw [Bool.eq_iff_iff, beq_iff_eq, beq_iff_eq]
    omega
  show (eqV (.int (a : Int)) (.int (n : Int)) || (eqV (.int (b : Int)) (.int (n : Int)) || false)) = _
  rw [e, e, Bool.or_false, Bool.eq_iff_iff, Bool.or_eq_true, beq_iff_eq, beq_iff_eq, decide_eq_true_eq]
  exact or_congr eq_comm eq_comm
theorem ok_joined (F : Top K mg "joined" s_joined ["names", "one", "other"]) (T : Txt K mg) : Def P w K mg base "joined" 1 ["names", "one", "other"] (spJoin K) := by
  refine Def.of F sc_joined (fun vs H Q E h => ?_) (fun ff cdv A outer s H vs Q E hr h => ?_)
  · obtain ⟨x, rfl, _⟩ := h
    rfl
  · obtain ⟨⟨l, names, a, b⟩, rfl, ⟨hl, h6⟩, k⟩ := h
    replace hl : SqL K H l (iV (nI names)) := hl
    replace h6 : names.length ≤ 6 := h6
    replace k : RetL (iV (nI (joinF names a b))) H Q := k
    refine ⟨_, (pss_cons (ps_set (i := 3) sc_joined.nd rfl (Or.inr rfl) (pe_callB (call_min2 rfl) (by rfl) T.min (by decide +kernel) (pa_cons (pv 1) (pa_cons (pv 2) pa_nil))))
      (pss_one (ps_ret (pe_lc (own := [("name", 4)]) (g := gName 4) rfl sc_joined.nd (pi_listK (K := K) (pv 0)) (blkOk_by (N := ["names", "one", "other", "smaller", "name"]) (sc := defScope s_joined) (by decide +kernel)) (fun _ _ _ _ _ => pg_name (i := 4) sc_joined.nd rfl (Or.inl rfl)) (fun _ _ _ _ _ => pts_nil) (fun _ _ _ _ _ => (pe_ifExp (pt_cmpR (op_in_seqK (K := K)) (pv 4) (pe_tup (pa_cons (pv 1) (pa_cons (pv 2) pa_nil))) (by rfl)) (pv 3) (pv 4))))))), ?_⟩
    refine q_asg (v := .int ((min a b : Nat) : Int)) (ev_is (ev_min2 (ev_var rfl) (ev_var rfl)) (congrArg V.int ?_)) fun H1 e1 => ?_
    · show (if (b : Int) < (a : Int) then (b : Int) else (a : Int)) = _
      split <;> omega
    · have e0 : ((names.filter fun _ => true).map fun n : Nat => V.int ((if n = a ∨ n = b then min a b else n : Nat) : Int)) = iV (nI (joinF names a b)) := by
        rw [filt_all, iVn]
        unfold joinF
        rw [List.map_map]
        rfl
      rw [iVn] at hl
      refine s_retL (e0 ▸ el_lcA names (fun n : Nat => V.int (n : Int)) (fun _ => true) (fun n : Nat => V.int ((if n = a ∨ n = b then min a b else n : Nat) : Int)) (ev_var rfl) (ex_l e1 hl) (by omega) (fun _ => rfl) (fun n H2 e2 hn => et_yes rfl) (fun n H2 e2 hn _ => ?_)) fun p H2 hp e2 h2 => k p H2 (fresh_back e1 hp) (e1.trans e2) h2
      refine ev_if (b := decide (n = a ∨ n = b)) (et_test (ev_is (ev_inU (ev_var rfl) (eu_tup (ea_cons (ev_var rfl) (ea_cons (ev_var rfl) ea_nil)) (by show 2 ≤ 100000; decide)) rfl rfl) (congrArg V.bl (in_two n a b)))) (fun c => ?_) (fun c => ?_)
      · rw [if_pos (of_decide_eq_true c)]
        exact ev_var rfl
      · rw [if_neg (of_decide_eq_false c)]
        exact ev_var rfl
/-! ### component_of_each_mark -/
abbrev s_component_of_each_mark : Stmt := topS 18
theorem sc_component_of_each_mark : FnScope ["pieces", "names", "left", "right"] ["pieces"] (defScope s_component_of_each_mark) := ⟨rfl, rfl, rfl, by decide +kernel, rfl, by decide +kernel, by decide +kernel⟩

def spNames : Sp := SL (fun x : PF => [.ref x.a]) preF (fun x => iV (nI (namesF x.f)))
theorem ends_take {f : Floor} (h : MEnds f) (i : Nat) : MEnds (f.take i) := fun p hp => h p (List.mem_of_mem_take hp)
theorem nm_get {f : Floor} (he : MEnds f) {m : Nat} (h : m < 6) : (namesF f)[m]? = some (nmAt f m) := by
  have h6 := (nm_ok _ f rfl he).len
  unfold nmAt
  rw [List.getD_eq_getElem?_getD, List.getElem?_eq_getElem (show m < (namesF f).length by omega)]
  rfl
theorem ok_names (F : Top K mg "component_of_each_mark" s_component_of_each_mark ["pieces"]) (T : Txt K mg) (D_joined : Def P w K mg base "joined" 1 ["names", "one", "other"] (spJoin K)) : Def P w K mg base "component_of_each_mark" 2 ["pieces"] spNames := by
  refine Def.of F sc_component_of_each_mark (fun vs H Q E h => ?_) (fun ff cdv A outer s H vs Q E hr h => ?_)
  · obtain ⟨x, rfl, _⟩ := h
    rfl
  · obtain ⟨⟨a, f⟩, rfl, ⟨hF, hk⟩, k⟩ := h
    replace hF : Fl H a f := hF
    replace hk : Fok f := hk
    replace k : RetL (iV (nI (namesF f))) H Q := k
    obtain ⟨_, g_MARK_COUNT⟩ := T.c_MARK_COUNT
    
    refine ⟨_, (pss_cons (ps_set (i := 1) sc_component_of_each_mark.nd rfl (Or.inl rfl) (pe_listRg rfl rfl T.list (prg_1 rfl T.range (pe_glob (v := .int (6)) rfl g_MARK_COUNT ⟨_, rfl⟩))))
      (pss_cons (ps_for PassesOwn.never rfl (pi_listK (K := K) (pv 0)) (pg_tup rfl (pgs_cons (pg_name (i := 2) sc_component_of_each_mark.nd rfl (Or.inl rfl)) (pgs_cons (pg_name (i := 3) sc_component_of_each_mark.nd rfl (Or.inl rfl)) pgs_nil))) (pss_one (ps_set (i := 1) sc_component_of_each_mark.nd rfl (Or.inl rfl) (pe_callD D_joined (hr.mono (by decide)) rfl (pa_cons (pv 1) (pa_cons (pe_ix (ix_listK (K := K)) (pv 1) (pv 2) (fun _ _ => rfl)) (pa_cons (pe_ix (ix_listK (K := K)) (pv 1) (pv 3) (fun _ _ => rfl)) pa_nil)))))))
      (pss_one (ps_ret (pv 1))))), ?_⟩
    refine q_asgL (el_listRg ev_c (by decide)) fun p H1 hp e1 h1 => ?_
    refine q_forF (H0 := H) (ev_var rfl) hF (fun i σ' H' => ∃ p v2 v3, σ' = [some (.ref a), some (.ref p), v2, v3] ∧ Ex H H' ∧ H p = none ∧ H' p = some (.lst (iV (nI (namesF (f.take i)))))) (fun H2 e2 => ⟨p, none, none, rfl, e1.trans e2, hp, ?_⟩) (fun i σ' H' q => ?_) e1 (fun i pc σ' H' hpc q => ?_) (fun σ' H' q => ?_)
    · rw [e2 _ _ h1]
      exact congrArg (fun z => some (HO.lst z)) (rg_iV 6)
    · obtain ⟨_, _, _, _, ee, _⟩ := q
      exact ee
    · obtain ⟨p, v2, v3, rfl, ee, hp, hx⟩ := q
      have hb := hk.2 pc (List.mem_of_getElem? hpc)
      have he := ends_take hk.2 i
      refine s_asgL (el_SL mono_jn ⟨p, namesF (f.take i), nmAt (f.take i) pc.left, nmAt (f.take i) pc.right⟩ (ea_cons (ev_var rfl) (ea_cons (ev_op (ev_var rfl) (ev_var rfl) (rv_ixL (sq_of hx) (atI_nat (iV_get (nI_get (nm_get he hb.1)))))) (ea_cons (ev_op (ev_var rfl) (ev_var rfl) (rv_ixL (sq_of hx) (atI_nat (iV_get (nI_get (nm_get he hb.2)))))) ea_nil))) ⟨sq_of hx, by rw [(nm_ok _ _ rfl he).len]; exact Nat.le_refl _⟩) fun q H2 hq e2 h2 => ?_
      refine ⟨q, _, _, rfl, ee.trans e2, fresh_back ee hq, ?_⟩
      rw [h2, take_get hpc, names_app]
      rfl
    · obtain ⟨p, v2, v3, rfl, ee, hp, hx⟩ := q
      rw [List.take_length] at hx
      exact s_ret (ev_var rfl) fun H3 e3 => k p H3 hp (ee.trans e3) (e3 _ _ hx)
/-! ### component_names -/
abbrev s_component_names : Stmt := topS 19
theorem sc_component_names : FnScope ["pieces", "names", "mark"] ["pieces"] (defScope s_component_names) := ⟨rfl, rfl, rfl, by decide +kernel, rfl, by decide +kernel, by decide +kernel⟩

def spCNames : Sp := SL (fun x : PF => [.ref x.a]) preF (fun x => iV (nI (Sr115.components x.f)))
theorem ok_cnames (F : Top K mg "component_names" s_component_names ["pieces"]) (T : Txt K mg) (D_component_of_each_mark : Def P w K mg base "component_of_each_mark" 2 ["pieces"] spNames) (D_used_marks : Def P w K mg base "used_marks" 1 ["pieces"] spUsed) :
    Def P w K mg base "component_names" 3 ["pieces"] spCNames := by
  refine Def.of F sc_component_names (fun vs H Q E h => ?_) (fun ff cdv A outer s H vs Q E hr h => ?_)
  · obtain ⟨x, rfl, _⟩ := h
    rfl
  · obtain ⟨⟨a, f⟩, rfl, ⟨hF, hk⟩, k⟩ := h
    replace hF : Fl H a f := hF
    replace hk : Fok f := hk
    replace k : RetL (iV (nI (Sr115.components f))) H Q := k
    refine ⟨_, (pss_cons (ps_set (i := 1) sc_component_names.nd rfl (Or.inr rfl) (pe_callD D_component_of_each_mark (hr.mono (by decide)) rfl (pa_cons (pv 0) pa_nil)))
      (pss_one (ps_ret (pe_lc (own := [("mark", 2)]) (g := gName 2) rfl sc_component_names.nd (pi_listK (K := K) (pe_callD D_used_marks (hr.mono (by decide)) rfl (pa_cons (pv 0) pa_nil))) (blkOk_by (N := ["pieces", "names", "mark"]) (sc := defScope s_component_names) (by decide +kernel)) (fun _ _ _ _ _ => pg_name (i := 2) sc_component_names.nd rfl (Or.inl rfl)) (fun _ _ _ _ _ => (pts_one (pt_cmpR op_eq (pe_ix (ix_listK (K := K)) (pv 1) (pv 2) (fun _ _ => rfl)) (pv 2) (nomark _)))) (fun _ _ _ _ _ => (pv 2)))))), ?_⟩
    refine q_asgL (el_SL mono_F ⟨a, f⟩ (ea_cons (ev_var rfl) ea_nil) ⟨hF, hk⟩) fun p H1 hp e1 h1 => ?_
    have e0 : (((Sr115.usedMarks f).filter fun m => nmAt f m == m).map fun m : Nat => V.int (m : Int)) = iV (nI (Sr115.components f)) := by rw [comps_eq hk.2, iVn]
    refine s_retL (e0 ▸ el_lcN (Sr115.usedMarks f) (fun m : Nat => V.int (m : Int)) (fun m => nmAt f m == m) (fun m : Nat => V.int (m : Int)) ((iVn _) ▸ el_SL mono_F ⟨a, f⟩ (ea_cons (ev_var rfl) ea_nil) ⟨hF.mono e1, hk⟩) ?_ (fun _ => rfl) (fun m H2 e2 hm => et_test (ev_is (ev_op (ev_op (ev_var rfl) (ev_var rfl) (rv_ixL (sq_of (e2 _ _ h1)) (atI_nat (iV_get (nI_get (nm_get hk.2 (used_lt hm))))))) (ev_var rfl) (rv_eq rfl)) (congrArg V.bl (dec_nat _ _)))) (fun m H2 e2 hm _ => ev_var rfl)) fun q H2 hq e2 h2 => k q H2 (fresh_back e1 hq) (e1.trans e2) h2
    have := good_len (s := Sr115.usedMarks f) ⟨used_nodup f, fun x hx => used_lt hx⟩
    omega
end
end BB
namespace BB
open PySem PySem.Spec PyProof.Rows L2 Evl
open Sr115 (Floor pieceAt Piece)
section
variable {P : Program} {w : World} {K : PySem.W.Frag} {mg : Str → Option Value} {base : Heap}
/-! ### fewest_chains -/
abbrev s_fewest_chains : Stmt := topS 20
theorem sc_fewest_chains : FnScope ["pieces", "names", "excesses", "total", "component", "positive", "mark"] ["pieces"] (defScope s_fewest_chains) := ⟨rfl, rfl, rfl, by decide +kernel, rfl, by decide +kernel, by decide +kernel⟩

def spFew : Sp := SV (fun x : PF => [.ref x.a]) preF (fun x => .int (Sr115.minChains x.f : Int))
theorem iVn_get {l : List Nat} {i : Nat} {v : V} (h : (iV (nI l))[i]? = some v) : ∃ n, l[i]? = some n ∧ v = .int (n : Int) := by
  rw [iVn, List.getElem?_map] at h
  cases hq : l[i]? with
  | none => rw [hq] at h; cases h
  | some n =>
    rw [hq] at h
    exact ⟨n, rfl, (Option.some.inj h).symm⟩
theorem takeN {l : List Nat} {i n : Nat} (h : l[i]? = some n) : l.take (i + 1) = l.take i ++ [n] := by
  rw [List.take_add_one, h]
  rfl
theorem ok_fewest (F : Top K mg "fewest_chains" s_fewest_chains ["pieces"]) (T : Txt K mg) (D_component_of_each_mark : Def P w K mg base "component_of_each_mark" 2 ["pieces"] spNames) (D_excess_of_each_mark : Def P w K mg base "excess_of_each_mark" 1 ["pieces"] spEx) (D_component_names : Def P w K mg base "component_names" 3 ["pieces"] spCNames) :
    Def P w K mg base "fewest_chains" 4 ["pieces"] spFew := by
  refine Def.of F sc_fewest_chains (fun vs H Q E h => ?_) (fun ff cdv A outer s H vs Q E hr h => ?_)
  · obtain ⟨x, rfl, _⟩ := h
    rfl
  · obtain ⟨⟨a, f⟩, rfl, ⟨hF, hk⟩, k⟩ := h
    replace hF : Fl H a f := hF
    replace hk : Fok f := hk
    replace k : RetV (.int (Sr115.minChains f : Int)) H Q := k
    obtain ⟨_, g_MARK_COUNT⟩ := T.c_MARK_COUNT
    
    refine ⟨_, (pss_cons (ps_set (i := 1) sc_fewest_chains.nd rfl (Or.inr rfl) (pe_callD D_component_of_each_mark (hr.mono (by decide)) rfl (pa_cons (pv 0) pa_nil)))
      (pss_cons (ps_set (i := 2) sc_fewest_chains.nd rfl (Or.inr rfl) (pe_callD D_excess_of_each_mark (hr.mono (by decide)) rfl (pa_cons (pv 0) pa_nil)))
      (pss_cons (ps_set (i := 3) sc_fewest_chains.nd rfl (Or.inl rfl) pe_int)
      (pss_cons (ps_for PassesOwn.never rfl (pi_listK (K := K) (pe_callD D_component_names (hr.mono (by decide)) rfl (pa_cons (pv 0) pa_nil))) (pg_name (i := 4) sc_fewest_chains.nd rfl (Or.inr rfl)) (pss_cons (ps_setLc (i := 5) (own := [("mark", 6)]) (g := gName 6) rfl sc_fewest_chains.nd rfl rfl (sw_true rfl rfl rfl (by decide +kernel)) (pi_range1 rfl T.range (pa_cons (pe_glob (v := .int (6)) rfl g_MARK_COUNT ⟨_, rfl⟩) pa_nil)) (blkOk_by (N := ["pieces", "names", "excesses", "total", "component", "positive", "mark"]) (sc := defScope s_fewest_chains) (by decide +kernel)) (fun _ _ _ _ _ => pg_name (i := 6) sc_fewest_chains.nd rfl (Or.inl rfl)) (fun _ _ _ _ _ => (pts_one (pt_cmpR op_eq (pe_ix (ix_listK (K := K)) (pv 1) (pv 6) (fun _ _ => rfl)) (pv 4) (nomark _)))) (fun _ _ _ _ _ => (pe_callB (call_max2 rfl) (by rfl) T.max (by decide +kernel) (pa_cons pe_int (pa_cons (pe_ix (ix_listK (K := K)) (pv 2) (pv 6) (fun _ _ => rfl)) pa_nil)))))
      (pss_one (ps_aug (i := 3) sc_fewest_chains.nd rfl (Or.inl rfl) (pe_callB (call_max2 rfl) (by rfl) T.max (by decide +kernel) (pa_cons pe_int (pa_cons (pe_callB (cr_sumK (K := K) rfl) (by rfl) T.sum (by decide +kernel) (pa_cons (pv 5) pa_nil)) pa_nil))) ip_add))))
      (pss_one (ps_ret (pv 3))))))), ?_⟩
    refine q_asgL (el_SL mono_F ⟨a, f⟩ (ea_cons (ev_var rfl) ea_nil) ⟨hF, hk⟩) fun n H1 hn e1 h1 => ?_
    refine q_asgL (el_SL mono_F ⟨a, f⟩ (ea_cons (ev_var rfl) ea_nil) ⟨hF.mono e1, hk⟩) fun x H2 hx e2 h2 => ?_
    replace h1 : H1 n = some (.lst (iV (nI (namesF f)))) := h1
    replace h2 : H2 x = some (.lst (iV (exM f))) := h2
    refine q_asg ev_c fun H3 e3 => ?_
    have e03 := (e1.trans e2).trans e3
    have g1 := (e2.trans e3) _ _ h1
    have g2 := e3 _ _ h2
    refine q_forNLn (xs := iV (nI (Sr115.components f))) (el_SL mono_F ⟨a, f⟩ (ea_cons (ev_var rfl) ea_nil) ⟨hF.mono e03, hk⟩) (fun p i σ' H' => ∃ v4 v5 v6, σ' = [some (.ref a), some (.ref n), some (.ref x), some (.int (totM f ((Sr115.components f).take i))), v4, v5, v6] ∧ Ex H3 H' ∧ H' p = some (.lst (iV (nI (Sr115.components f)))))
      (fun p H4 hp e4 h4 => ⟨none, none, none, rfl, e4, h4⟩) (fun p i σ' H' _ q => ?_) (fun p i v σ' H' hv q => ?_) (fun p σ' H' q => ?_)
    · obtain ⟨_, _, _, _, _, hp⟩ := q
      exact sq_of hp
    · obtain ⟨v4, v5, v6, rfl, ee, hp⟩ := q
      obtain ⟨c, hc, rfl⟩ := iVn_get hv
      have e0 : (((List.range 6).filter fun m => nmAt f m == c).map fun m => V.int (max 0 (exAt f m))) = iV (posM f c) := by
        unfold posM iV
        rw [List.map_map]
        rfl
      refine q_asgL (e0 ▸ el_lcR (n := 6) (fun m => nmAt f m == c) (fun m => V.int (max 0 (exAt f m))) (ea_cons ev_c ea_nil) (by decide) (fun _ => rfl) (fun m H4 e4 hm => et_test (ev_is (ev_op (ev_op (ev_var rfl) (ev_var rfl) (rv_ixL (sq_of (e4 _ _ (ee _ _ g1))) (atI_nat (iV_get (nI_get (nm_get hk.2 hm)))))) (ev_var rfl) (rv_eq rfl)) (congrArg V.bl (dec_nat _ _)))) (fun m H4 e4 hm _ => ev_is (ev_max2 ev_c (ev_op (ev_var rfl) (ev_var rfl) (rv_ixL (sq_of (e4 _ _ (ee _ _ g2))) (atI_nat (iV_get (exM_get hm)))))) (congrArg V.int ?_))) fun r H5 hr5 e5 h5 => ?_
      · refine s_aug (a := totM f ((Sr115.components f).take i)) (b := max 1 (posM f c).sum) rfl (ev_is (ev_max2 ev_c (ev_sum (ev_var rfl) h5)) (congrArg V.int ?_)) fun H6 e6 => ?_
        · show (if (posM f c).sum > 1 then (posM f c).sum else 1) = max 1 (posM f c).sum
          split <;> omega
        · refine ⟨some (.int (c : Int)), some (.ref r), v6, ?_, (ee.trans e5).trans e6, e6 _ _ (e5 _ _ hp)⟩
          rw [takeN hc, tot_app]
          rfl
      · show (if exAt f m > 0 then exAt f m else 0) = max 0 (exAt f m)
        split <;> omega
    · obtain ⟨v4, v5, v6, rfl, ee, hp⟩ := q
      refine s_ret (v := .int (Sr115.minChains f : Int)) (ev_is (ev_var rfl) (congrArg V.int ?_)) fun H5 e5 => k H5 ((e03.trans ee).trans e5)
      rw [iV_len, nI_len, List.take_length]
      exact tot_eq hk.2
/-! ### pieces_from -/
abbrev s_pieces_from : Stmt := topS 22
theorem sc_pieces_from : FnScope ["pieces", "mark", "piece"] ["pieces", "mark"] (defScope s_pieces_from) := ⟨rfl, rfl, rfl, by decide +kernel, rfl, by decide +kernel, by decide +kernel⟩

structure PM where
  a : Addr
  f : Floor
  m : Nat
def prePM (x : PM) (H : Hp) : Prop := Fl H x.a x.f ∧ Fok x.f ∧ x.m < 6
theorem mono_PM : Mono prePM := fun x H H' e h => ⟨h.1.mono e, h.2⟩
def spFrom : Sp := SB (fun x : PM => [.ref x.a, .int (x.m : Int)]) prePM tupO (fun x => fromM x.f x.m)
theorem ok_from (F : Top K mg "pieces_from" s_pieces_from ["pieces", "mark"]) (T : Txt K mg) : Def P w K mg base "pieces_from" 1 ["pieces", "mark"] spFrom := by
  refine Def.of F sc_pieces_from (fun vs H Q E h => ?_) (fun ff cdv A outer s H vs Q E hr h => ?_)
  · obtain ⟨x, rfl, _⟩ := h
    rfl
  · obtain ⟨⟨a, f, m⟩, rfl, ⟨hF, hk, hm⟩, k⟩ := h
    replace hF : Fl H a f := hF
    replace hk : Fok f := hk
    replace k : RetB tupO (fromM f m) H Q := k
    refine ⟨_, (pss_one (ps_ret (pe_lc (own := [("piece", 2)]) (g := gName 2) rfl sc_pieces_from.nd (pi_listK (K := K) (pv 0)) (blkOk_by (N := ["pieces", "mark", "piece"]) (sc := defScope s_pieces_from) (by decide +kernel)) (fun _ _ _ _ _ => pg_name (i := 2) sc_pieces_from.nd rfl (Or.inl rfl)) (fun _ _ _ _ _ => (pts_one (pt_cmpR op_eq (pe_ix (ix_tupK (K := K)) (pv 2) pe_int (fun _ _ => rfl)) (pv 1) (nomark _)))) (fun _ _ _ _ _ => (pv 2))))), ?_⟩
    exact s_retB (eb_lcO f (fun p => p.left == m) (ev_var rfl) hF (Nat.le_trans hk.1 (by decide)) (fun _ => rfl) (fun q p H1 e1 hp hq => et_test (ev_is (ev_op (ev_op (ev_var rfl) ev_c (rv_ixT (st_of hq) (atI_nat (j := 0) rfl))) (ev_var rfl) (rv_eq rfl)) (congrArg V.bl (dec_nat _ _)))) (fun q H1 => ev_var rfl)) fun p H1 hp e1 hO => k p H1 hp e1 hO
/-! ### with_a_choice -/
abbrev s_with_a_choice : Stmt := topS 23
theorem sc_with_a_choice : FnScope ["choices", "pieces", "mark", "more", "chosen", "piece"] ["choices", "pieces", "mark"] (defScope s_with_a_choice) := ⟨rfl, rfl, rfl, by decide +kernel, rfl, by decide +kernel, by decide +kernel⟩

structure Wc where
  c : Addr
  a : Addr
  cs : List (List Nat)
  f : Floor
  m : Nat
def preWc (x : Wc) (H : Hp) : Prop := Rows H x.c (x.cs.map nI) ∧ Fl H x.a x.f ∧ Fok x.f ∧ x.m < 6 ∧ x.cs.length ≤ 128 ∧ ∀ ch ∈ x.cs, ch.length = 6
theorem mono_wc : Mono preWc := fun x H H' e h => ⟨h.1.mono e, h.2.1.mono e, h.2.2⟩
def spWith : Sp := SB (fun x : Wc => [.ref x.c, .ref x.a, .int (x.m : Int)]) preWc lstO (fun x => (wcM x.f x.cs x.m).map nI)
theorem wc_app (f : Floor) (cs : List (List Nat)) (ch : List Nat) (m : Nat) : wcM f (cs ++ [ch]) m = wcM f cs m ++ (fromM f m).map fun p => putM ch m p.right := by
  unfold wcM
  rw [List.flatMap_append]
  show _ ++ (_ ++ []) = _
  rw [List.append_nil]
theorem ok_with (F : Top K mg "with_a_choice" s_with_a_choice ["choices", "pieces", "mark"]) (T : Txt K mg) (D_pieces_from : Def P w K mg base "pieces_from" 1 ["pieces", "mark"] spFrom) :
    Def P w K mg base "with_a_choice" 2 ["choices", "pieces", "mark"] spWith := by
  refine Def.of F sc_with_a_choice (fun vs H Q E h => ?_) (fun ff cdv A outer s H vs Q E hr h => ?_)
  · obtain ⟨x, rfl, _⟩ := h
    rfl
  · obtain ⟨⟨c, a, cs, f, m⟩, rfl, ⟨hC, hF, hk, hm, hz, h6⟩, k⟩ := h
    replace hC : Rows H c (cs.map nI) := hC
    replace hF : Fl H a f := hF
    replace hk : Fok f := hk
    replace hm : m < 6 := hm
    replace hz : cs.length ≤ 128 := hz
    replace h6 : ∀ ch ∈ cs, ch.length = 6 := h6
    replace k : RetB lstO ((wcM f cs m).map nI) H Q := k
    refine ⟨_, (pss_cons (ps_set (i := 3) sc_with_a_choice.nd rfl (Or.inl rfl) (pe_lst pa_nil))
      (pss_cons (ps_for PassesOwn.never rfl (pi_listK (K := K) (pv 0)) (pg_name (i := 4) sc_with_a_choice.nd rfl (Or.inl rfl)) (pss_one (ps_for PassesOwn.never rfl (pi_listK (K := K) (pe_callD D_pieces_from (hr.mono (by decide)) rfl (pa_cons (pv 1) (pa_cons (pv 2) pa_nil)))) (pg_name (i := 5) sc_with_a_choice.nd rfl (Or.inl rfl)) (pss_one (ps_expr (pe_bm PySem.F.plainAttrs_list PySem.F.slot_list_append PySem.F.type_list_append mt_append (pv 3) (pa_cons (pe_op op_cat (pe_op op_cat (pe_slice (sl_listK (K := K)) (pv 4) po_none (po_some (pv 2))) (pe_lst (pa_cons (pe_ix (ix_tupK (K := K)) (pv 5) pe_int (fun _ _ => rfl)) pa_nil))) (pe_slice (sl_listK (K := K)) (pv 4) (po_some (pe_op op_add (pv 2) pe_int)) po_none)) pa_nil)))))))
      (pss_one (ps_ret (pv 3))))), ?_⟩
    refine q_asgL (el_lst ea_nil (by decide)) fun p H1 hp e1 h1 => ?_
    obtain ⟨zs, g1, g2, g3⟩ := hC
    refine q_forLn (xs := refs zs) (ev_var rfl) (sq_of (e1 _ _ g1)) (fun i σ' H' => ∃ v4 v5, σ' = [some (.ref c), some (.ref a), some (.int (m : Int)), some (.ref p), v4, v5] ∧ Ex H H' ∧ Rows H' p ((wcM f (cs.take i) m).map nI))
      (fun H2 e2 => ⟨none, none, rfl, e1.trans e2, Objs.nil (e2 _ _ h1)⟩) (fun i σ' H' _ hP => ?_) (fun i x σ' H' hx hP => ?_) (fun σ' H' hP => ?_)
    · obtain ⟨_, _, _, ee, _⟩ := hP
      exact sq_of (ee _ _ g1)
    · obtain ⟨v4, v5, rfl, ee, hO⟩ := hP
      obtain ⟨z, hz1, rfl⟩ : ∃ z, zs[i]? = some z ∧ x = V.ref z.1 := by
        unfold refs at hx
        rw [List.getElem?_map] at hx
        cases hq : zs[i]? with
        | none => rw [hq] at hx; cases hx
        | some z =>
          rw [hq] at hx
          exact ⟨z, rfl, (Option.some.inj hx).symm⟩
      obtain ⟨ch, hch, hlz⟩ : ∃ ch, cs[i]? = some ch ∧ z.2 = nI ch := by
        have e : (zs.map (·.2))[i]? = (cs.map nI)[i]? := by rw [g2]
        rw [List.getElem?_map, List.getElem?_map, hz1] at e
        cases hq : cs[i]? with
        | none => rw [hq] at e; cases e
        | some y =>
          rw [hq] at e
          exact ⟨y, rfl, Option.some.inj e⟩
      have hrow : ∀ H2, Ex H H2 → H2 z.1 = some (.lst (iV (nI ch))) := fun H2 e2 => by
        have q := e2 _ _ (g3 z (List.mem_of_getElem? hz1))
        rw [hlz] at q
        exact q
      have hc6 := h6 ch (List.mem_of_getElem? hch)
      have hcs : cs.take (i + 1) = cs.take i ++ [ch] := by
        rw [List.take_add_one, hch]
        rfl
      have hlen1 : (wcM f (cs.take i) m).length ≤ 128 * 7 := by
        rw [wc_len]
        refine Nat.mul_le_mul ?_ (Nat.le_trans (from_le f m) hk.1)
        rw [List.length_take]
        omega
      have hfl : (fromM f m).length ≤ 7 := Nat.le_trans (from_le f m) hk.1
      refine s_forNB (eb_SB mono_PM ⟨a, f, m⟩ (ea_cons (ev_var rfl) (ea_cons (ev_var rfl) ea_nil)) ⟨hF.mono ee, hk, hm⟩) fun r ws H2 hr2 e2 w1 w2 w3 => ?_
      obtain ⟨xs0, o1, _⟩ := id hO
      have hrp : r ≠ p := fun q => by
        rw [q, o1] at hr2
        cases hr2
      refine ⟨fun j σ' H' => ∃ v5, σ' = [some (.ref c), some (.ref a), some (.int (m : Int)), some (.ref p), some (.ref z.1), v5] ∧ Ex H H' ∧ H' r = some (.lst (refs ws)) ∧ (∀ y ∈ ws, H' y.1 = some (tupO y.2)) ∧
          Rows H' p ((wcM f (cs.take i) m ++ ((fromM f m).take j).map fun pc => putM ch m pc.right).map nI), ⟨v5, rfl, ee.trans e2, w1, w3, ?_⟩, fun j σ' H' q => ?_, fun j y σ' H' hy q => ?_, fun σ' H' q => ?_⟩
      · show Rows H2 p ((wcM f (cs.take i) m ++ []).map nI)
        rw [List.append_nil]
        exact hO.mono e2
      · obtain ⟨_, _, _, q1, _⟩ := q
        exact q1
      · obtain ⟨v5, rfl, ee2, q1, q2, q3⟩ := q
        obtain ⟨ys, y1, y2, y3⟩ := q3
        have hpc : (fromM f m)[j]? = some y.2 := by
          rw [← w2, List.getElem?_map, hy]
          rfl
        have hyt := q2 y (List.mem_of_getElem? hy)
        have hj : j < (fromM f m).length := (List.getElem?_eq_some_iff.mp hpc).1
        refine s_appL y1 (ev_var rfl) (el_cat (es_L (el_cat (es_L (el_sl (ev_var rfl) eo_none (eo_some (ev_var rfl)) (sq_of (hrow H' ee2)))) (es_L (el_lst (ea_cons (ev_op (ev_var rfl) ev_c (rv_ixT (st_of hyt) (atI_nat (j := 1) rfl))) ea_nil) (by show 1 ≤ 100000; decide))) ?_)) (es_L (el_sl (ev_var rfl) (eo_some (ev_op (ev_var rfl) ev_c rv_I0)) eo_none (sq_of (hrow H' ee2)))) ?_) ?_ (fun q H4 hq e4 h4 => ?_)
        · rw [cut_take, iV_take, iV_len, nI_take, nI_len, List.length_take]
          show min m ch.length + 1 ≤ 10000000
          omega
        · have em : ((m : Int) + 1) = ((m + 1 : Nat) : Int) := rfl
          rw [em, cut_take, cut_drop, List.length_append, iV_take, iV_drop, iV_len, iV_len, nI_take, nI_len, List.length_take]
          have q5 : ((nI ch).drop (m + 1)).length ≤ 6 := by
            rw [List.length_drop, nI_len]
            omega
          show min m ch.length + 1 + _ ≤ 10000000
          omega
        · rw [objs_len y2, List.length_map, List.length_append, List.length_map, List.length_take]
          omega
        · have hqp : q ≠ p := fun z => by
            rw [z, y1] at hq
            cases hq
          have h5 : H4 q = some (lstO (nI (putM ch m y.2.right))) := by
            rw [h4]
            have em : ((m : Int) + 1) = ((m + 1 : Nat) : Int) := rfl
            rw [em, cut_take, cut_drop, iV_take, iV_drop]
            unfold lstO putM
            rw [nI_app, nI_app, iV_app, iV_app, nI_take, show nI (ch.drop (m + 1)) = (nI ch).drop (m + 1) from List.map_drop]
            rfl
          have nyp : ∀ y ∈ ws, y.1 ≠ p := fun y hy z => by
            have t := q2 y hy
            rw [z, y1] at t
            cases Option.some.inj t
          refine ⟨_, rfl, Ex.mut (ee2.trans e4) hp, ?_, fun y hy => ?_, ?_⟩
          · rw [upd_ne hrp]
            exact e4 _ _ q1
          · rw [upd_ne (nyp y hy)]
            exact e4 _ _ (q2 y hy)
          · have hO3 := Objs.app sep_lst y1 y3 e4 h5 hqp
            rw [y2] at hO3
            have e9 : (wcM f (cs.take i) m ++ ((fromM f m).take (j + 1)).map fun pc => putM ch m pc.right).map nI = (wcM f (cs.take i) m ++ ((fromM f m).take j).map fun pc => putM ch m pc.right).map nI ++ [nI (putM ch m y.2.right)] := by
              rw [List.take_add_one, hpc, List.map_append, List.map_append, List.map_append, List.map_append, List.append_assoc]
              rfl
            rw [e9]
            exact hO3
      · obtain ⟨v5, rfl, ee2, q1, q2, q3⟩ := q
        refine ⟨_, _, rfl, ee2, ?_⟩
        rw [List.take_length] at q3
        rw [hcs, wc_app]
        exact q3
    · obtain ⟨v4, v5, rfl, ee, hO⟩ := hP
      refine s_ret (ev_var rfl) fun H2 e2 => k p H2 hp (ee.trans e2) ?_
      have e : (refs zs).length = cs.length := by rw [objs_len g2, List.length_map]
      rw [e, List.take_length] at hO
      exact hO.mono e2
end
end BB
namespace BB
open PySem PySem.Spec PyProof.Rows L2 Evl
open Sr115 (Floor pieceAt Piece)
section
variable {P : Program} {w : World} {K : PySem.W.Frag} {mg : Str → Option Value} {base : Heap}
/-! ### all_choices -/
abbrev s_all_choices : Stmt := topS 24
theorem sc_all_choices : FnScope ["pieces", "target", "choices", "mark"] ["pieces", "target"] (defScope s_all_choices) := ⟨rfl, rfl, rfl, by decide +kernel, rfl, by decide +kernel, by decide +kernel⟩

/-- a list of one new list -/
theorem eb_one {te : TE} {σ : L2.St} {H : Hp} {x : List Int} (h : EvL te σ H (iV x)) : EvB lstO (tLst (tCons te tNil)) σ H [x] := fun H1 e Q q => h H1 e _ fun r H2 hr e2 h2 =>
  ⟨by show 1 ≤ sizeLine; decide, fun d hd => q d _ (fresh_back e2 hd) (e2.trans (Ex.new hd)) ⟨[(r, x)], upd_same, rfl, fun z hz => by
    rw [List.mem_singleton] at hz
    subst hz
    show upd H2 d _ r = _
    rw [upd_ne (ne_of_none h2 hd)]
    exact h2⟩⟩
def spAll : Sp := SB (fun x : PM => [.ref x.a, .int (x.m : Int)]) prePM lstO (fun x => (itC x.f x.m (Sr115.usedMarks x.f)).map nI)
theorem used_take {f : Floor} (i : Nat) : ((Sr115.usedMarks f).take i).Nodup ∧ ∀ m ∈ (Sr115.usedMarks f).take i, m < 6 := ⟨(List.take_sublist i _).nodup (used_nodup f), fun m hm => used_lt (List.mem_of_mem_take hm)⟩
theorem ok_all (F : Top K mg "all_choices" s_all_choices ["pieces", "target"]) (T : Txt K mg) (D_used_marks : Def P w K mg base "used_marks" 1 ["pieces"] spUsed) (D_with_a_choice : Def P w K mg base "with_a_choice" 2 ["choices", "pieces", "mark"] spWith) :
    Def P w K mg base "all_choices" 3 ["pieces", "target"] spAll := by
  refine Def.of F sc_all_choices (fun vs H Q E h => ?_) (fun ff cdv A outer s H vs Q E hr h => ?_)
  · obtain ⟨x, rfl, _⟩ := h
    rfl
  · obtain ⟨⟨a, f, t⟩, rfl, ⟨hF, hk, ht⟩, k⟩ := h
    replace hF : Fl H a f := hF
    replace hk : Fok f := hk
    replace ht : t < 6 := ht
    replace k : RetB lstO ((itC f t (Sr115.usedMarks f)).map nI) H Q := k
    obtain ⟨_, g_MARK_COUNT⟩ := T.c_MARK_COUNT
    
    refine ⟨_, (pss_cons (ps_set (i := 2) sc_all_choices.nd rfl (Or.inl rfl) (pe_lst (pa_cons (pe_op op_rep (pe_lst (pa_cons (pv 1) pa_nil)) (pe_glob (v := .int (6)) rfl g_MARK_COUNT ⟨_, rfl⟩)) pa_nil)))
      (pss_cons (ps_for PassesOwn.never rfl (pi_listK (K := K) (pe_callD D_used_marks (hr.mono (by decide)) rfl (pa_cons (pv 0) pa_nil))) (pg_name (i := 3) sc_all_choices.nd rfl (Or.inl rfl)) (pss_one (ps_if (pt_cmpR op_ne (pv 3) (pv 1) (nomark _)) (pss_one (ps_set (i := 2) sc_all_choices.nd rfl (Or.inl rfl) (pe_callD D_with_a_choice (hr.mono (by decide)) rfl (pa_cons (pv 2) (pa_cons (pv 0) (pa_cons (pv 3) pa_nil)))))) pss_nil)))
      (pss_one (ps_ret (pv 2))))), ?_⟩
    refine q_asgB (eb_one (x := nI (List.replicate 6 t)) (el_rep (es_L (el_lst (ea_cons (ev_var rfl) ea_nil) (by show 1 ≤ 100000; decide))) ev_c (by decide) (by show 1 ≤ 1000; decide))) fun c H1 hc e1 hO1 => ?_
    refine q_forNLn (xs := iV (nI (Sr115.usedMarks f))) (el_SL mono_F ⟨a, f⟩ (ea_cons (ev_var rfl) ea_nil) ⟨hF.mono e1, hk⟩) (fun p i σ' H' => ∃ c v3, σ' = [some (.ref a), some (.int (t : Int)), some (.ref c), v3] ∧ Ex H H' ∧ H c = none ∧ Rows H' c ((itC f t ((Sr115.usedMarks f).take i)).map nI) ∧ H' p = some (.lst (iV (nI (Sr115.usedMarks f)))))
      (fun p H2 hp e2 h2 => ⟨c, none, rfl, e1.trans e2, hc, hO1.mono e2, h2⟩) (fun p i σ' H' _ q => ?_) (fun p i v σ' H' hv q => ?_) (fun p σ' H' q => ?_)
    · obtain ⟨_, _, _, _, _, _, hp⟩ := q
      exact sq_of hp
    · obtain ⟨c, v3, rfl, ee, hcn, hO, hp⟩ := q
      obtain ⟨m, hm, rfl⟩ := iVn_get hv
      have hmu : m ∈ Sr115.usedMarks f := List.mem_of_getElem? hm
      have ut := used_take (f := f) i
      refine s_when (b := !(m == t)) (et_test (ev_is (ev_op (ev_var rfl) (ev_var rfl) (rv_ne rfl)) (congrArg (fun z => V.bl (!z)) (dec_nat m t)))) (fun b H2 e2 => ?_) (fun b H2 e2 => ?_)
      · have mt : ¬ m = t := by simpa using b
        refine s_asgB (eb_SB mono_wc ⟨c, a, itC f t ((Sr115.usedMarks f).take i), f, m⟩ (ea_cons (ev_var rfl) (ea_cons (ev_var rfl) (ea_cons (ev_var rfl) ea_nil))) ⟨hO.mono e2, hF.mono (ee.trans e2), hk, used_lt hmu, itC_len hk.1 t ut.1, fun ch hch => (itC_row hk.2 ht ut.1 ut.2 ch hch).1⟩) fun d H3 hd e3 hO3 => ?_
        refine ⟨d, some (.int (m : Int)), rfl, (ee.trans e2).trans e3, fresh_back (ee.trans e2) hd, ?_, e3 _ _ (e2 _ _ hp)⟩
        rw [takeN hm, itC_app, if_neg mt]
        exact hO3
      · have mt : m = t := by simpa using b
        refine ⟨c, some (.int (m : Int)), rfl, ee.trans e2, hcn, ?_, e2 _ _ hp⟩
        rw [takeN hm, itC_app, if_pos mt]
        exact hO.mono e2
    · obtain ⟨c, v3, rfl, ee, hcn, hO, hp⟩ := q
      rw [iV_len, nI_len, List.take_length] at hO
      exact s_ret (ev_var rfl) fun H2 e2 => k c H2 hcn (ee.trans e2) (hO.mono e2)
/-! ### leads_to -/
abbrev s_leads_to : Stmt := topS 25
theorem sc_leads_to : FnScope ["chosen", "mark", "target", "reached", "step"] ["chosen", "mark", "target"] (defScope s_leads_to) := ⟨rfl, rfl, rfl, by decide +kernel, rfl, by decide +kernel, by decide +kernel⟩

structure Ld where
  b : Addr
  ch : List Nat
  m : Nat
  t : Nat
def preLd (x : Ld) (H : Hp) : Prop := SqL K H x.b (iV (nI x.ch)) ∧ x.ch.length = 6 ∧ (∀ y ∈ x.ch, y < 6) ∧ x.m < 6
theorem mono_ld : Mono (preLd (K := K)) := fun x H H' e h => ⟨ex_l e h.1, h.2⟩
def spLeads (K : PySem.W.Frag) : Sp := SV (fun x : Ld => [.ref x.b, .int (x.m : Int), .int (x.t : Int)]) (preLd (K := K)) (fun x => .bl (goM x.ch x.m 6 == x.t))
theorem getD_some {l : List Nat} {i : Nat} (h : i < l.length) : l[i]? = some (l.getD i 0) := by
  rw [List.getD_eq_getElem?_getD, List.getElem?_eq_getElem h]
  rfl
theorem goM_lt {ch : List Nat} {m : Nat} (h6 : ch.length = 6) (hx : ∀ y ∈ ch, y < 6) (hm : m < 6) : ∀ k, goM ch m k < 6
  | 0 => hm
  | k + 1 => hx _ (List.mem_of_getElem? (getD_some (by rw [h6]; exact goM_lt h6 hx hm k)))
theorem ok_leads (F : Top K mg "leads_to" s_leads_to ["chosen", "mark", "target"]) (T : Txt K mg) : Def P w K mg base "leads_to" 1 ["chosen", "mark", "target"] (spLeads K) := by
  refine Def.of F sc_leads_to (fun vs H Q E h => ?_) (fun ff cdv A outer s H vs Q E hr h => ?_)
  · obtain ⟨x, rfl, _⟩ := h
    rfl
  · obtain ⟨⟨b, ch, m, t⟩, rfl, ⟨hb, h6, hx, hm⟩, k⟩ := h
    replace hb : SqL K H b (iV (nI ch)) := hb
    replace h6 : ch.length = 6 := h6
    replace hx : ∀ y ∈ ch, y < 6 := hx
    replace hm : m < 6 := hm
    replace k : RetV (.bl (goM ch m 6 == t)) H Q := k
    obtain ⟨_, g_MARK_COUNT⟩ := T.c_MARK_COUNT
    
    refine ⟨_, (pss_cons (ps_set (i := 3) sc_leads_to.nd rfl (Or.inl rfl) (pv 1))
      (pss_cons (ps_for PassesOwn.never rfl (pi_range1 rfl T.range (pa_cons (pe_glob (v := .int (6)) rfl g_MARK_COUNT ⟨_, rfl⟩) pa_nil)) (pg_name (i := 4) sc_leads_to.nd rfl (Or.inl rfl)) (pss_one (ps_set (i := 3) sc_leads_to.nd rfl (Or.inl rfl) (pe_ix (ix_listK (K := K)) (pv 0) (pv 3) (fun _ _ => rfl)))))
      (pss_one (ps_ret (pe_cmpR op_eq (pv 3) (pv 2) (nomark _)))))), ?_⟩
    refine q_asg (ev_var rfl) fun H1 e1 => ?_
    refine q_forR1 (n := 6) (ea_cons ev_c ea_nil) (by decide) (fun i σ' H' => ∃ v4, σ' = [some (.ref b), some (.int (m : Int)), some (.int (t : Int)), some (.int (goM ch m i : Int)), v4] ∧ Ex H H') (fun H2 e2 => ⟨none, rfl, e1.trans e2⟩) (fun i σ' H' hi q => ?_) (fun σ' H' q => ?_)
    · obtain ⟨v4, rfl, ee⟩ := q
      have hg := getD_some (l := ch) (i := goM ch m i) (by rw [h6]; exact goM_lt h6 hx hm i)
      exact s_asg (ev_op (ev_var rfl) (ev_var rfl) (rv_ixL (ex_l ee hb) (atI_nat (iV_get (nI_get hg))))) fun H2 e2 => ⟨some (.int (i : Int)), rfl, ee.trans e2⟩
    · obtain ⟨v4, rfl, ee⟩ := q
      exact s_ret (ev_is (ev_op (ev_var rfl) (ev_var rfl) (rv_eq rfl)) (congrArg V.bl (dec_nat _ _))) fun H2 e2 => k H2 (ee.trans e2)
/-! ### is_tree -/
abbrev s_is_tree : Stmt := topS 26
theorem sc_is_tree : FnScope ["chosen", "target", "mark"] ["chosen", "target"] (defScope s_is_tree) := ⟨rfl, rfl, rfl, by decide +kernel, rfl, by decide +kernel, by decide +kernel⟩

structure Tr where
  b : Addr
  ch : List Nat
  t : Nat
def preTr (x : Tr) (H : Hp) : Prop := SqL K H x.b (iV (nI x.ch)) ∧ x.ch.length = 6 ∧ ∀ y ∈ x.ch, y < 6
theorem mono_tr : Mono (preTr (K := K)) := fun x H H' e h => ⟨ex_l e h.1, h.2⟩
def spTree (K : PySem.W.Frag) : Sp := SV (fun x : Tr => [.ref x.b, .int (x.t : Int)]) (preTr (K := K)) (fun x => .bl (treeB x.t x.ch))
theorem ok_tree (F : Top K mg "is_tree" s_is_tree ["chosen", "target"]) (T : Txt K mg) (D_leads_to : Def P w K mg base "leads_to" 1 ["chosen", "mark", "target"] (spLeads K)) : Def P w K mg base "is_tree" 2 ["chosen", "target"] (spTree K) := by
  refine Def.of F sc_is_tree (fun vs H Q E h => ?_) (fun ff cdv A outer s H vs Q E hr h => ?_)
  · obtain ⟨x, rfl, _⟩ := h
    rfl
  · obtain ⟨⟨b, ch, t⟩, rfl, ⟨hb, h6, hx⟩, k⟩ := h
    replace hb : SqL K H b (iV (nI ch)) := hb
    replace h6 : ch.length = 6 := h6
    replace hx : ∀ y ∈ ch, y < 6 := hx
    replace k : RetV (.bl (treeB t ch)) H Q := k
    obtain ⟨_, g_MARK_COUNT⟩ := T.c_MARK_COUNT
    
    refine ⟨_, (pss_one (ps_ret (pe_callB (cr_allK (K := K) rfl) (by rfl) T.all (by decide +kernel) (pa_cons (pe_lc (own := [("mark", 2)]) (g := gName 2) rfl sc_is_tree.nd (pi_range1 rfl T.range (pa_cons (pe_glob (v := .int (6)) rfl g_MARK_COUNT ⟨_, rfl⟩) pa_nil)) (blkOk_by (N := ["chosen", "target", "mark"]) (sc := defScope s_is_tree) (by decide +kernel)) (fun _ _ _ _ _ => pg_name (i := 2) sc_is_tree.nd rfl (Or.inl rfl)) (fun _ _ _ _ _ => pts_nil) (fun _ _ _ _ _ => (pe_callD D_leads_to (hr.mono (by decide)) rfl (pa_cons (pv 0) (pa_cons (pv 2) (pa_cons (pv 1) pa_nil)))))) pa_nil)))), ?_⟩
    have e0 : (((List.range 6).filter fun _ => true).map fun m => V.bl (goM ch m 6 == t)) = ((List.range 6).map fun m => goM ch m 6 == t).map V.bl := by
      rw [filt_all, List.map_map]
      rfl
    refine s_ret (v := .bl (treeB t ch)) (ev_is (ev_all (bs := (List.range 6).map fun m => goM ch m 6 == t) (e0 ▸ el_lcR (n := 6) (fun _ => true) (fun m => V.bl (goM ch m 6 == t)) (ea_cons ev_c ea_nil) (by decide) (fun _ => rfl) (fun i H1 e1 hi => et_yes rfl) (fun m H1 e1 hm _ => ev_SV mono_ld ⟨b, ch, m, t⟩ (ea_cons (ev_var rfl) (ea_cons (ev_var rfl) (ea_cons (ev_var rfl) ea_nil))) ⟨ex_l e1 hb, h6, hx, hm⟩))) (congrArg V.bl (all_map_id _ _))) fun H2 e2 => k H2 e2
/-! ### number_of_trees -/
abbrev s_number_of_trees : Stmt := topS 27
theorem sc_number_of_trees : FnScope ["pieces", "target", "chosen"] ["pieces", "target"] (defScope s_number_of_trees) := ⟨rfl, rfl, rfl, by decide +kernel, rfl, by decide +kernel, by decide +kernel⟩

def spTrees : Sp := SV (fun x : PM => [.ref x.a, .int (x.m : Int)]) prePM (fun x => .int (treesM x.f x.m : Int))
theorem ok_trees (F : Top K mg "number_of_trees" s_number_of_trees ["pieces", "target"]) (T : Txt K mg) (D_all_choices : Def P w K mg base "all_choices" 3 ["pieces", "target"] spAll) (D_is_tree : Def P w K mg base "is_tree" 2 ["chosen", "target"] (spTree K)) :
    Def P w K mg base "number_of_trees" 4 ["pieces", "target"] spTrees := by
  refine Def.of F sc_number_of_trees (fun vs H Q E h => ?_) (fun ff cdv A outer s H vs Q E hr h => ?_)
  · obtain ⟨x, rfl, _⟩ := h
    rfl
  · obtain ⟨⟨a, f, t⟩, rfl, ⟨hF, hk, ht⟩, k⟩ := h
    replace hF : Fl H a f := hF
    replace hk : Fok f := hk
    replace ht : t < 6 := ht
    replace k : RetV (.int (treesM f t : Int)) H Q := k
    refine ⟨_, (pss_one (ps_ret (pe_callB call_len_seq (by rfl) T.len PySem.boot_len (pa_cons (pe_lc (own := [("chosen", 2)]) (g := gName 2) rfl sc_number_of_trees.nd (pi_listK (K := K) (pe_callD D_all_choices (hr.mono (by decide)) rfl (pa_cons (pv 0) (pa_cons (pv 1) pa_nil)))) (blkOk_by (N := ["pieces", "target", "chosen"]) (sc := defScope s_number_of_trees) (by decide +kernel)) (fun _ _ _ _ _ => pg_name (i := 2) sc_number_of_trees.nd rfl (Or.inl rfl)) (fun _ _ _ _ _ => (pts_one (pt_val (pe_callD D_is_tree (hr.mono (by decide)) rfl (pa_cons (pv 2) (pa_cons (pv 1) pa_nil)))))) (fun _ _ _ _ _ => (pv 2))) pa_nil)))), ?_⟩
    refine s_ret (v := .int (treesM f t : Int)) (ev_is (ev_lenB (eb_map_filter (itC f t (Sr115.usedMarks f)) (treeB t) (fun r => treeB t (SrCommon.intsToNats r)) (fun r => by rw [toNats_nI]) (eb_lcB (o := lstO) ((itC f t (Sr115.usedMarks f)).map nI) (fun r => treeB t (SrCommon.intsToNats r)) (eb_SB mono_PM ⟨a, f, t⟩ (ea_cons (ev_var rfl) (ea_cons (ev_var rfl) ea_nil)) ⟨hF, hk, ht⟩) ?_ (fun _ => rfl) (fun q x H1 e1 hx hq => ?_) (fun q H1 => ev_var rfl)))) ?_) fun H2 e2 => k H2 e2
    · rw [List.length_map]
      exact Nat.le_trans (itC_len hk.1 t (used_nodup f)) (by decide)
    · obtain ⟨r, hr, rfl⟩ := List.mem_map.mp hx
      rw [toNats_nI]
      have row := itC_row hk.2 ht (used_nodup f) (fun m hm => used_lt hm) r hr
      exact et_B (ev_SV mono_tr ⟨q, r, t⟩ (ea_cons (ev_var rfl) (ea_cons (ev_var rfl) ea_nil)) ⟨sq_of hq, row.1, row.2⟩)
    · rw [List.length_map]
      rfl
/-! ### factorial -/
abbrev s_factorial : Stmt := topS 28
theorem sc_factorial : FnScope ["number", "product", "factor"] ["number"] (defScope s_factorial) := ⟨rfl, rfl, rfl, by decide +kernel, rfl, by decide +kernel, by decide +kernel⟩

def preFac (n : Nat) (H : Hp) : Prop := n ≤ 7
theorem mono_fac : Mono preFac := fun _ _ _ _ h => h
def spFac : Sp := SV (fun n : Nat => [.int (n : Int)]) preFac (fun n => .int (fac n : Int))
theorem ok_fac (F : Top K mg "factorial" s_factorial ["number"]) (T : Txt K mg) : Def P w K mg base "factorial" 1 ["number"] spFac := by
  refine Def.of F sc_factorial (fun vs H Q E h => ?_) (fun ff cdv A outer s H vs Q E hr h => ?_)
  · obtain ⟨x, rfl, _⟩ := h
    rfl
  · obtain ⟨n, rfl, hn, k⟩ := h
    replace hn : n ≤ 7 := hn
    replace k : RetV (.int (fac n : Int)) H Q := k
    refine ⟨_, (pss_cons (ps_set (i := 1) sc_factorial.nd rfl (Or.inl rfl) pe_int)
      (pss_cons (ps_for PassesOwn.never rfl (pi_range2 rfl T.range (pa_cons pe_int (pa_cons (pe_op op_add (pv 0) pe_int) pa_nil))) (pg_name (i := 2) sc_factorial.nd rfl (Or.inl rfl)) (pss_one (ps_set (i := 1) sc_factorial.nd rfl (Or.inl rfl) (pe_op op_mul (pv 1) (pv 2)))))
      (pss_one (ps_ret (pv 1))))), ?_⟩
    refine q_asg ev_c fun H1 e1 => ?_
    refine q_forR2 (lo := 2) (n := (n : Int) + 1) (ea_cons ev_c (ea_cons (ev_op (ev_var rfl) ev_c rv_I0) ea_nil)) (by omega) (fun i σ' H' => ∃ v2, σ' = [some (.int (n : Int)), some (.int (fac (i + 1) : Int)), v2] ∧ Ex H H') (fun H2 e2 => ⟨none, rfl, e1.trans e2⟩) (fun i σ' H' hi q => ?_) (fun σ' H' q => ?_)
    · obtain ⟨v2, rfl, ee⟩ := q
      refine s_asg (v := .int (fac (i + 1 + 1) : Int)) (ev_is (ev_op (ev_var rfl) (ev_var rfl) (rv_I (.inr ⟨by omega, by omega⟩))) (congrArg V.int ?_)) fun H2 e2 => ⟨some (.int (2 + (i : Int))), rfl, ee.trans e2⟩
      show (fac (i + 1) : Int) * (2 + (i : Int)) = (((i + 1 + 1) * fac (i + 1) : Nat) : Int)
      rw [Int.natCast_mul, Int.mul_comm]
      congr 1
      omega
    · obtain ⟨v2, rfl, ee⟩ := q
      refine s_ret (v := .int (fac n : Int)) (ev_is (ev_var rfl) ?_) fun H2 e2 => k H2 (ee.trans e2)
      cases n with
      | zero => rfl
      | succ n =>
        have e : (((n + 1 : Nat) : Int) + 1 - 2).toNat = n := by omega
        rw [e]
/-! ### circuits_by_trees -/
abbrev s_circuits_by_trees : Stmt := topS 29
theorem sc_circuits_by_trees : FnScope ["pieces", "product", "mark", "excess"] ["pieces"] (defScope s_circuits_by_trees) := ⟨rfl, rfl, rfl, by decide +kernel, rfl, by decide +kernel, by decide +kernel⟩

def spCbt : Sp := SV (fun x : PF => [.ref x.a]) preF (fun x => .int (Sr115.circuitCountByTrees x.f : Int))
theorem ok_cbt (F : Top K mg "circuits_by_trees" s_circuits_by_trees ["pieces"]) (T : Txt K mg) (D_component_names : Def P w K mg base "component_names" 3 ["pieces"] spCNames) (D_excess_of_each_mark : Def P w K mg base "excess_of_each_mark" 1 ["pieces"] spEx) (D_number_of_trees : Def P w K mg base "number_of_trees" 4 ["pieces", "target"] spTrees)
    (D_used_marks : Def P w K mg base "used_marks" 1 ["pieces"] spUsed) (D_factorial : Def P w K mg base "factorial" 1 ["number"] spFac) (D_pieces_from : Def P w K mg base "pieces_from" 1 ["pieces", "mark"] spFrom) :
    Def P w K mg base "circuits_by_trees" 5 ["pieces"] spCbt := by
  refine Def.of F sc_circuits_by_trees (fun vs H Q E h => ?_) (fun ff cdv A outer s H vs Q E hr h => ?_)
  · obtain ⟨x, rfl, _⟩ := h
    rfl
  · obtain ⟨⟨a, f⟩, rfl, ⟨hF, hk⟩, k⟩ := h
    replace hF : Fl H a f := hF
    replace hk : Fok f := hk
    replace k : RetV (.int (Sr115.circuitCountByTrees f : Int)) H Q := k
    refine ⟨_, (pss_cons (ps_if (PW.pt (pw_or (pt_cmpR op_eq (pe_callB call_len_seq (by rfl) T.len PySem.boot_len (pa_cons (pv 0) pa_nil)) pe_int (nomark _)) (pw_or1 (pt_cmpR op_gt (pe_callB call_len_seq (by rfl) T.len PySem.boot_len (pa_cons (pe_callD D_component_names (hr.mono (by decide)) rfl (pa_cons (pv 0) pa_nil)) pa_nil)) pe_int (nomark _))))) (pss_one (ps_ret pe_int)) pss_nil)
      (pss_cons (ps_if (pt_val (pe_callB (cr_anyK (K := K) rfl) (by rfl) T.any (by decide +kernel) (pa_cons (pe_lc (own := [("excess", 3)]) (g := gName 3) rfl sc_circuits_by_trees.nd (pi_listK (K := K) (pe_callD D_excess_of_each_mark (hr.mono (by decide)) rfl (pa_cons (pv 0) pa_nil))) (blkOk_by (N := ["pieces", "product", "mark", "excess"]) (sc := defScope s_circuits_by_trees) (by decide +kernel)) (fun _ _ _ _ _ => pg_name (i := 3) sc_circuits_by_trees.nd rfl (Or.inl rfl)) (fun _ _ _ _ _ => pts_nil) (fun _ _ _ _ _ => (pe_cmpR op_ne (pv 3) pe_int (nomark _)))) pa_nil))) (pss_one (ps_ret pe_int)) pss_nil)
      (pss_cons (ps_set (i := 1) sc_circuits_by_trees.nd rfl (Or.inl rfl) (pe_callD D_number_of_trees (hr.mono (by decide)) rfl (pa_cons (pv 0) (pa_cons (pe_ix (ix_tupK (K := K)) (pe_ix (ix_listK (K := K)) (pv 0) pe_int (fun _ _ => rfl)) pe_int (fun _ _ => rfl)) pa_nil))))
      (pss_cons (ps_for PassesOwn.never rfl (pi_listK (K := K) (pe_callD D_used_marks (hr.mono (by decide)) rfl (pa_cons (pv 0) pa_nil))) (pg_name (i := 2) sc_circuits_by_trees.nd rfl (Or.inl rfl)) (pss_one (ps_set (i := 1) sc_circuits_by_trees.nd rfl (Or.inl rfl) (pe_op op_mul (pv 1) (pe_callD D_factorial (hr.mono (by decide)) rfl (pa_cons (pe_op op_sub (pe_callB call_len_seq (by rfl) T.len PySem.boot_len (pa_cons (pe_callD D_pieces_from (hr.mono (by decide)) rfl (pa_cons (pv 0) (pa_cons (pv 2) pa_nil))) pa_nil)) pe_int) pa_nil))))))
      (pss_one (ps_ret (pv 1))))))), ?_⟩
    refine q_when (b := decide (f.length = 0) || decide (1 < (Sr115.components f).length)) (et_or (a := decide (f.length = 0)) (b := decide (1 < (Sr115.components f).length)) (et_test (ev_is (ev_op (ev_lenO (ev_var rfl) hF) ev_c (rv_eq rfl)) (congrArg V.bl ?_))) (fun _ => et_test (ev_is (ev_op (ev_lenN (el_SL mono_F ⟨a, f⟩ (ea_cons (ev_var rfl) ea_nil) ⟨hF, hk⟩)) ev_c rv_I0) (congrArg V.bl ?_)))) (fun b H1 e1 => ?_) (fun b H1 e1 => ?_)
    · rw [dec_int, Bool.eq_iff_iff, beq_iff_eq, decide_eq_true_eq]
      omega
    · show decide ((1 : Int) < ((iV (nI (Sr115.components f))).length : Int)) = _
      rw [iV_len, nI_len]
      exact decide_eq_decide.mpr (by omega)
    · have e : Sr115.circuitCountByTrees f = 0 := by
        rw [Bool.or_eq_true, decide_eq_true_eq, decide_eq_true_eq] at b
        exact cbt_zero (b.imp (fun z => List.eq_nil_of_length_eq_zero z) id)
      exact s_ret ev_c fun H2 e2 => by
        have q := k H2 (e1.trans e2)
        rw [e] at q
        exact q
    · rw [Bool.or_eq_false_iff, decide_eq_false_iff_not, decide_eq_false_iff_not] at b
      have ne : f ≠ [] := fun z => b.1 (by rw [z]; rfl)
      have h0 : 0 < f.length := List.length_pos_iff.mpr ne
      have e0 : (((exM f).filter fun _ => true).map fun x => V.bl (x != 0)) = ((exM f).map fun x => x != 0).map V.bl := by
        rw [filt_all, List.map_map]
        rfl
      refine q_when (b := ((exM f).map fun x => x != 0).any id) (et_B (ev_any (bs := (exM f).map fun x => x != 0) (e0 ▸ el_lcN (exM f) V.int (fun _ => true) (fun x => V.bl (x != 0)) (el_SL mono_F ⟨a, f⟩ (ea_cons (ev_var rfl) ea_nil) ⟨hF.mono e1, hk⟩) (by rw [exM_len]; decide) (fun _ => rfl) (fun x H2 e2 hx => et_yes rfl) (fun x H2 e2 hx _ => ev_is (ev_op (ev_var rfl) ev_c (rv_ne rfl)) (congrArg (fun z => V.bl (!z)) dec_int))))) (fun b2 H2 e2 => ?_) (fun b2 H2 e2 => ?_)
      · exact s_ret ev_c fun H3 e3 => by
          have q := k H3 ((e1.trans e2).trans e3)
          rw [cbt_unbal b2] at q
          exact q
      · have hF2 := hF.mono (e1.trans e2)
        have hl := (hk.2 _ (pieceAt_mem h0)).1
        refine q_asg (v := .int (treesM f (pieceAt f 0).left : Int)) (ev_SV mono_PM ⟨a, f, (pieceAt f 0).left⟩ (ea_cons (ev_var rfl) (ea_cons (ev_left (i := 0) (ev_var rfl) hF2 ev_c h0) ea_nil)) ⟨hF2, hk, hl⟩) fun H3 e3 => ?_
        have e03 := (e1.trans e2).trans e3
        refine q_forNLn (xs := iV (nI (Sr115.usedMarks f))) (el_SL mono_F ⟨a, f⟩ (ea_cons (ev_var rfl) ea_nil) ⟨hF.mono e03, hk⟩) (fun p i σ' H' => ∃ v2, σ' = [some (.ref a), some (.int (prodM f ((Sr115.usedMarks f).take i) : Int)), v2, none] ∧ Ex H H' ∧ H' p = some (.lst (iV (nI (Sr115.usedMarks f)))))
          (fun p H4 hp e4 h4 => ⟨none, ?_, e03.trans e4, h4⟩) (fun p i σ' H' _ q => ?_) (fun p i v σ' H' hv q => ?_) (fun p σ' H' q => ?_)
        · show _ = [some (V.ref a), some (V.int (prodM f [] : Int)), none, none]
          rw [prod_nil]
          rfl
        · obtain ⟨_, _, _, hp⟩ := q
          exact sq_of hp
        · obtain ⟨v2, rfl, ee, hp⟩ := q
          obtain ⟨m, hm, rfl⟩ := iVn_get hv
          have hmu : m ∈ Sr115.usedMarks f := List.mem_of_getElem? hm
          have ho := out_pos b2 hmu
          have ho7 : Sr115.outDegree f m ≤ 7 := Nat.le_trans (from_le f m) hk.1
          have hfc : fac (Sr115.outDegree f m - 1) ≤ 5040 := fac_mono (n := 7) (by omega)
          refine s_asg (v := .int (prodM f ((Sr115.usedMarks f).take (i + 1)) : Int)) (ev_is (ev_op (ev_var rfl) (ev_SV mono_fac (Sr115.outDegree f m - 1) (ea_cons (ev_is (ev_op (ev_lenB (eb_SB mono_PM ⟨a, f, m⟩ (ea_cons (ev_var rfl) (ea_cons (ev_var rfl) ea_nil)) ⟨hF.mono ee, hk, used_lt hmu⟩)) ev_c rv_I0) (congrArg V.int ?_)) ea_nil) ?_) (rv_I (.inr ⟨by omega, by omega⟩))) (congrArg V.int ?_)) fun H4 e4 => ⟨some (.int (m : Int)), rfl, ee.trans e4, e4 _ _ hp⟩
          · show ((fromM f m).length : Int) - 1 = ((Sr115.outDegree f m - 1 : Nat) : Int)
            rw [from_len]
            omega
          · show Sr115.outDegree f m - 1 ≤ 7
            omega
          · rw [takeN hm, prod_app]
            show (prodM f _ : Int) * (fac _ : Int) = _
            rw [Int.natCast_mul]
        · obtain ⟨v2, rfl, ee, hp⟩ := q
          refine s_ret (v := .int (Sr115.circuitCountByTrees f : Int)) (ev_is (ev_var rfl) (congrArg V.int ?_)) fun H4 e4 => k H4 (ee.trans e4)
          rw [iV_len, nI_len, List.take_length, cbt_some hk.2 ne b.2 b2]
end
end BB
namespace BB
open PySem PySem.Spec PyProof.Rows L2 Evl
open Sr115 (Floor pieceAt Piece)
theorem nb {b : Bool} (h : (!b) = true) : b = false := by cases b <;> first | rfl | cases h
theorem nf {b : Bool} (h : (!b) = false) : b = true := by cases b <;> first | rfl | cases h
theorem erase_map {α β : Type} (g : α → β) : ∀ (l : List α) (i : Nat), (l.map g).eraseIdx i = (l.eraseIdx i).map g
  | [], _ => rfl
  | _ :: _, 0 => rfl
  | x :: l, i + 1 => congrArg (List.cons (g x)) (erase_map g l i)
/-! ### one list changes -/
def ExB (a : Addr) (H H' : Hp) : Prop := ∀ q o, q ≠ a → H q = some o → H' q = some o
theorem ExB.of {a : Addr} {H H' : Hp} (e : Ex H H') : ExB a H H' := fun q o _ h => e q o h
theorem ExB.trans {a : Addr} {H H1 H2 : Hp} (h : ExB a H H1) (k : ExB a H1 H2) : ExB a H H2 := fun q o n z => k q o n (h q o n z)
theorem ExB.upd {a : Addr} {H : Hp} {o : HO} : ExB a H (upd H a o) := fun q u n h => by
  rw [upd_ne n]
  exact h
/-- a fresh list may change -/
theorem ExB.ex {a : Addr} {H H1 H2 : Hp} (e : Ex H H1) (b : ExB a H1 H2) (h : H a = none) : Ex H H2 := fun q o z => b q o (fun n => by rw [n, h] at z; cases z) (e q o z)
def RetM (a : Addr) (f : Floor) (xs : List V) (H : Hp) (Q : VK) : Prop := ∀ p H2, H p = none → ExB a H H2 → H2 p = some (.lst xs) → Fl H2 a f → Q (.ref p) H2
section
variable {K : PySem.W.Frag} {σ : L2.St} {H : Hp} {te ta tb : TE} {D : Ends} {tz : TS}
theorem Fl.ne {a : Addr} {zs : List (Addr × Piece)} (h1 : H a = some (.lst (refs zs))) (h3 : ∀ z ∈ zs, H z.1 = some (tupO z.2)) : ∀ z ∈ zs, z.1 ≠ a := Objs.ne sep_tup h1 h3
/-- xs[i] = (..), a new tuple -/
theorem s_setU {l : Addr} {xs ys : List V} {j : Nat} (hl : H l = some (.lst xs)) (h : EvU te σ H ys) (ho : Ev ta σ H (.ref l)) (hi : Ev tb σ H (.int (j : Int))) (hj : j < xs.length) (k : ∀ p H1, H p = none → Ex H H1 → H1 p = some (.tup ys) → D.nx σ (upd H1 l (.lst (xs.set j (.ref p))))) :
    tAsg te (gSub ta tb rSetL) D σ H := h H (Ex.refl H) _ fun p H1 hp e1 h1 => ho H1 e1 _ fun H2 e2 => hi H2 (e1.trans e2) _ fun H3 e3 =>
  ⟨l, xs, (j : Int), j, rfl, rfl, ((e1.trans e2).trans e3) l _ hl, ixN_nat hj, k p H3 hp ((e1.trans e2).trans e3) (e3 _ _ (e2 _ _ h1))⟩
theorem q_setU {l : Addr} {xs ys : List V} {j : Nat} (hl : H l = some (.lst xs)) (h : EvU te σ H ys) (ho : Ev ta σ H (.ref l)) (hi : Ev tb σ H (.int (j : Int))) (hj : j < xs.length) (k : ∀ p H1, H p = none → Ex H H1 → H1 p = some (.tup ys) → tz D σ (upd H1 l (.lst (xs.set j (.ref p))))) :
    tSeq (tAsg te (gSub ta tb rSetL)) tz D σ H := s_setU (D := { D with nx := tz D }) hl h ho hi hj k
/-- xs.pop(i), what is taken out dropped -/
theorem q_pop {l : Addr} {xs : List V} {j : Nat} (hl : H l = some (.lst xs)) (ha : Ev ta σ H (.ref l)) (hi : Ev te σ H (.int (j : Int))) (hj : j < xs.length) (hz : xs.length ≤ 100000) (k : ∀ H1, Ex H H1 → tz D σ (upd H1 l (.lst (xs.eraseIdx j)))) :
    tSeq (tDrop (tBM K "list" rPopAt ta (tCons te tNil))) tz D σ H := ha H (Ex.refl H) _ fun H1 e1 =>
  ⟨Or.inl ⟨rfl, xs, sq_of (e1 l _ hl)⟩, hi H1 e1 _ fun H2 e2 => ⟨l, xs, (j : Int), j, xs[j], rfl, rfl, e2 l _ (e1 l _ hl), by omega, by omega, by
    rw [seqIndex_of (by omega) (by omega)]
    rfl, List.getElem?_eq_getElem hj, k H2 (e1.trans e2)⟩⟩
theorem Objs.erase {α : Type} {o : α → HO} (hs : Sep o) {H H' : Hp} {a : Addr} {zs : List (Addr × α)} {j : Nat} (h1 : H a = some (.lst (refs zs))) (h3 : ∀ z ∈ zs, H z.1 = some (o z.2)) (e : Ex H H') :
    Objs o (upd H' a (.lst ((refs zs).eraseIdx j))) a ((zs.map (·.2)).eraseIdx j) := by
  refine ⟨zs.eraseIdx j, ?_, ?_, fun z hz => ?_⟩
  · rw [upd_same]
    unfold refs
    rw [erase_map]
  · rw [erase_map]
  · have hz' := (List.eraseIdx_sublist zs j).subset hz
    rw [upd_ne (Objs.ne hs h1 h3 z hz')]
    exact e _ _ (h3 z hz')
theorem Objs.put {α : Type} {o : α → HO} (hs : Sep o) {H H' : Hp} {a q : Addr} {zs : List (Addr × α)} {j : Nat} {x : α} (h1 : H a = some (.lst (refs zs))) (h3 : ∀ z ∈ zs, H z.1 = some (o z.2)) (e : Ex H H') (hq : H' q = some (o x)) (hqa : q ≠ a) :
    Objs o (upd H' a (.lst ((refs zs).set j (.ref q)))) a ((zs.map (·.2)).set j x) := by
  refine ⟨zs.set j (q, x), ?_, ?_, fun z hz => ?_⟩
  · rw [upd_same]
    unfold refs
    rw [List.map_set]
  · rw [List.map_set]
  · rcases List.mem_or_eq_of_mem_set hz with hz | hz
    · rw [upd_ne (Objs.ne hs h1 h3 z hz)]
      exact e _ _ (h3 z hz)
    · subst hz
      rw [upd_ne hqa]
      exact hq
theorem atI_int {xs : List V} {i : Int} {v : V} (h : 0 ≤ i) (hx : xs[i.toNat]? = some v) : atI xs i = some v := by
  have e : i = ((i.toNat : Nat) : Int) := by omega
  rw [e]
  exact atI_nat hx
theorem tup_of {l r : Int} (hl : 0 ≤ l) (hr : 0 ≤ r) : HO.tup [.int l, .int r] = tupO ⟨l.toNat, r.toNat⟩ := by
  show _ = HO.tup [.int ((l.toNat : Nat) : Int), .int ((r.toNat : Nat) : Int)]
  rw [show ((l.toNat : Nat) : Int) = l by omega, show ((r.toNat : Nat) : Int) = r by omega]
/-- two tests: not mark, or not mark -/
theorem et_marks {sp : Sp} {l r : Int} {E1 E2 : XK} {t1 t2 : TA} (h1 : Ev (tCall sp [] E1 t1) σ H (.bl (Sr115.isMark l))) (h2 : Ev (tCall sp [] E2 t2) σ H (.bl (Sr115.isMark r))) : EvT (tOr (tNot (tB (tCall sp [] E1 t1))) (tNot (tB (tCall sp [] E2 t2)))) σ H (!(Sr115.isMark l && Sr115.isMark r)) :=
  et_is (et_or (et_not (et_B h1)) fun _ => et_not (et_B h2)) (Bool.not_and _ _).symm
end
section
variable {P : Program} {w : World} {K : PySem.W.Frag} {mg : Str → Option Value} {base : Heap}
/-! ### is_index -/
abbrev s_is_index : Stmt := topS 36
theorem sc_is_index : FnScope ["number", "things"] ["number", "things"] (defScope s_is_index) := ⟨rfl, rfl, rfl, by decide +kernel, rfl, by decide +kernel, by decide +kernel⟩

structure Ix where
  i : Int
  b : Addr
  n : Nat
def preIx (x : Ix) (H : Hp) : Prop := ∃ xs, H x.b = some (.lst xs) ∧ xs.length = x.n
theorem mono_ix : Mono preIx := fun x H H' e h => by
  obtain ⟨xs, h1, h2⟩ := h
  exact ⟨xs, e _ _ h1, h2⟩
def spIdx : Sp := SV (fun x : Ix => [.int x.i, .ref x.b]) preIx (fun x => .bl (SrCommon.isIndex x.i x.n))
theorem ok_index (F : Top K mg "is_index" s_is_index ["number", "things"]) (T : Txt K mg) : Def P w K mg base "is_index" 1 ["number", "things"] spIdx := by
  refine Def.of F sc_is_index (fun vs H Q E h => ?_) (fun ff cdv A outer s H vs Q E hr h => ?_)
  · obtain ⟨x, rfl, _⟩ := h
    rfl
  · obtain ⟨⟨i, b, n⟩, rfl, ⟨xs, hb, hn⟩, k⟩ := h
    replace hb : H b = some (.lst xs) := hb
    replace hn : xs.length = n := hn
    subst hn
    refine ⟨_, (pss_one (ps_ret (pe_and (pe_cmpR op_le pe_int (pv 0) (nomark _)) (pe_one (pe_cmpR op_lt (pv 0) (pe_callB call_len_seq (by rfl) T.len PySem.boot_len (pa_cons (pv 1) pa_nil)) (nomark _)))))), ?_⟩
    exact s_ret (v := .bl (SrCommon.isIndex i xs.length)) (ev_is (ev_andV (a := decide (0 ≤ i)) (b := decide (i < (xs.length : Int))) (ev_op ev_c (ev_var rfl) rv_I0) (fun _ => ev_op (ev_var rfl) (ev_len (ev_var rfl) (sq_of hb)) rv_I0)) rfl) fun H2 e2 => k H2 e2
/-! ### add_piece -/
abbrev s_add_piece : Stmt := topS 37
theorem sc_add_piece : FnScope ["pieces", "left", "right"] ["pieces", "left", "right"] (defScope s_add_piece) := ⟨rfl, rfl, rfl, by decide +kernel, rfl, by decide +kernel, by decide +kernel⟩

def spAdd : Sp := fun vs H Q _ => ∃ (a : Addr) (f : Floor) (l r : Int), vs = [.ref a, .int l, .int r] ∧ Fl H a f ∧ Fok f ∧ RetM a (newP f (.addPiece l r)) (iV (ansP f (.addPiece l r))) H Q
theorem ok_add (F : Top K mg "add_piece" s_add_piece ["pieces", "left", "right"]) (T : Txt K mg) (D_is_mark : Def P w K mg base "is_mark" 1 ["number"] spIsMark) : Def P w K mg base "add_piece" 2 ["pieces", "left", "right"] spAdd := by
  refine Def.of F sc_add_piece (fun vs H Q E h => ?_) (fun ff cdv A outer s H vs Q E hr h => ?_)
  · obtain ⟨a, f, l, r, rfl, _⟩ := h
    rfl
  · obtain ⟨a, f, l, r, rfl, hF, hk, k⟩ := h
    obtain ⟨_, g_OUT_OF_RANGE⟩ := T.c_OUT_OF_RANGE
    obtain ⟨_, g_MOST_PIECES⟩ := T.c_MOST_PIECES
    obtain ⟨_, g_TOO_MANY_PIECES⟩ := T.c_TOO_MANY_PIECES
    
    refine ⟨_, (pss_cons (ps_if (PW.pt (pw_or (pt_not (pt_val (pe_callD D_is_mark (hr.mono (by decide)) rfl (pa_cons (pv 1) pa_nil)))) (pw_or1 (pt_not (pt_val (pe_callD D_is_mark (hr.mono (by decide)) rfl (pa_cons (pv 2) pa_nil))))))) (pss_one (ps_ret (pe_lst (pa_cons (pe_glob (v := .int (-22)) rfl g_OUT_OF_RANGE ⟨_, rfl⟩) pa_nil)))) pss_nil)
      (pss_cons (ps_if (pt_cmpR op_ge (pe_callB call_len_seq (by rfl) T.len PySem.boot_len (pa_cons (pv 0) pa_nil)) (pe_glob (v := .int (7)) rfl g_MOST_PIECES ⟨_, rfl⟩) (nomark _)) (pss_one (ps_ret (pe_lst (pa_cons (pe_glob (v := .int (-28)) rfl g_TOO_MANY_PIECES ⟨_, rfl⟩) pa_nil)))) pss_nil)
      (pss_cons (ps_expr (pe_bm PySem.F.plainAttrs_list PySem.F.slot_list_append PySem.F.type_list_append mt_append (pv 0) (pa_cons (pe_tup (pa_cons (pv 1) (pa_cons (pv 2) pa_nil))) pa_nil)))
      (pss_one (ps_ret (pe_lst (pa_cons (pe_op op_sub (pe_callB call_len_seq (by rfl) T.len PySem.boot_len (pa_cons (pv 0) pa_nil)) pe_int) pa_nil))))))), ?_⟩
    unfold ansP newP at k
    refine q_when (et_marks (l := l) (r := r) (ev_SV mono_true l (ea_cons (ev_var rfl) ea_nil) trivial) (ev_SV mono_true r (ea_cons (ev_var rfl) ea_nil) trivial)) (fun c H1 e1 => ?_) (fun c H1 e1 => ?_)
    · rw [add_bad (nb c)] at k
      exact s_retL (el_lst (ea_cons ev_c ea_nil) (by show 1 ≤ 100000; decide)) fun p H2 hp e2 h2 => k p H2 (fresh_back e1 hp) (ExB.of (e1.trans e2)) h2 (hF.mono (e1.trans e2))
    · have hm : (Sr115.isMark l && Sr115.isMark r) = true := nf c
      refine q_when (b := decide (7 ≤ f.length)) (et_test (ev_is (ev_op (ev_lenO (ev_var rfl) (hF.mono e1)) ev_c rv_I0) (congrArg V.bl (decide_eq_decide.mpr (by omega))))) (fun d H2 e2 => ?_) (fun d H2 e2 => ?_)
      · rw [add_full hm (of_decide_eq_true d)] at k
        have e12 := e1.trans e2
        exact s_retL (el_lst (ea_cons ev_c ea_nil) (by show 1 ≤ 100000; decide)) fun p H3 hp e3 h3 => k p H3 (fresh_back e12 hp) (ExB.of (e12.trans e3)) h3 (hF.mono (e12.trans e3))
      · have h7 : ¬ 7 ≤ f.length := of_decide_eq_false d
        rw [add_ok hm h7] at k
        rw [Bool.and_eq_true, mark_iff, mark_iff] at hm
        obtain ⟨zs, g1, g2, g3⟩ := hF.mono (e1.trans e2)
        refine q_appU g1 (ev_var rfl) (eu_tup (ea_cons (ev_var rfl) (ea_cons (ev_var rfl) ea_nil)) (by show 2 ≤ 100000; decide)) (by rw [objs_len g2]; omega) fun q H3 hq e3 h3 => ?_
        rw [tup_of hm.1.1 hm.2.1] at h3
        have hqa : q ≠ a := fun z => by
          rw [z, g1] at hq
          cases hq
        have hN := Objs.app sep_tup g1 g3 e3 h3 hqa
        rw [g2] at hN
        refine s_retL (xs := [.int (f.length : Int)]) (el_lst (ea_cons (ev_is (ev_op (ev_lenO (ev_var rfl) hN) ev_c rv_I0) (congrArg V.int ?_)) ea_nil) (by show 1 ≤ 100000; decide)) fun p H4 hp e4 h4 => ?_
        · rw [List.length_append]
          show ((f.length + 1 : Nat) : Int) - 1 = (f.length : Int)
          omega
        · refine k p H4 (fresh_back ((e1.trans e2).trans e3) ?_) (((ExB.of ((e1.trans e2).trans e3)).trans ExB.upd).trans (ExB.of e4)) h4 (hN.mono e4)
          by_cases z : p = a
          · subst z
            rw [upd_same] at hp
            cases hp
          · rw [upd_ne z] at hp
            exact hp
/-! ### remove_piece -/
abbrev s_remove_piece : Stmt := topS 38
theorem sc_remove_piece : FnScope ["pieces", "i"] ["pieces", "i"] (defScope s_remove_piece) := ⟨rfl, rfl, rfl, by decide +kernel, rfl, by decide +kernel, by decide +kernel⟩

def spRem : Sp := fun vs H Q _ => ∃ (a : Addr) (f : Floor) (i : Int), vs = [.ref a, .int i] ∧ Fl H a f ∧ Fok f ∧ RetM a (newP f (.removePiece i)) (iV (ansP f (.removePiece i))) H Q
theorem fl_ix {H : Hp} {a : Addr} {f : Floor} (h : Fl H a f) (i : Int) : preIx ⟨i, a, f.length⟩ H := by
  obtain ⟨zs, h1, h2, _⟩ := h
  exact ⟨refs zs, h1, objs_len h2⟩
theorem upd_back {H : Hp} {a p : Addr} {o : HO} (h : upd H a o p = none) : H p = none := by
  by_cases z : p = a
  · subst z
    rw [upd_same] at h
    cases h
  · rw [upd_ne z] at h
    exact h
theorem ok_rem (F : Top K mg "remove_piece" s_remove_piece ["pieces", "i"]) (T : Txt K mg) (D_is_index : Def P w K mg base "is_index" 1 ["number", "things"] spIdx) : Def P w K mg base "remove_piece" 2 ["pieces", "i"] spRem := by
  refine Def.of F sc_remove_piece (fun vs H Q E h => ?_) (fun ff cdv A outer s H vs Q E hr h => ?_)
  · obtain ⟨a, f, i, rfl, _⟩ := h
    rfl
  · obtain ⟨a, f, i, rfl, hF, hk, k⟩ := h
    obtain ⟨_, g_NOT_THERE⟩ := T.c_NOT_THERE
    
    refine ⟨_, (pss_cons (ps_if (pt_not (pt_val (pe_callD D_is_index (hr.mono (by decide)) rfl (pa_cons (pv 1) (pa_cons (pv 0) pa_nil))))) (pss_one (ps_ret (pe_lst (pa_cons (pe_glob (v := .int (-2)) rfl g_NOT_THERE ⟨_, rfl⟩) pa_nil)))) pss_nil)
      (pss_cons (ps_expr (pe_bm PySem.F.plainAttrs_list PySem.F.slot_list_pop PySem.F.type_list_pop mt_popAt (pv 0) (pa_cons (pv 1) pa_nil)))
      (pss_one (ps_ret (pe_lst (pa_cons (pe_callB call_len_seq (by rfl) T.len PySem.boot_len (pa_cons (pv 0) pa_nil)) pa_nil)))))), ?_⟩
    unfold ansP newP at k
    refine q_when (b := !(Sr115.isPiece f i)) (et_not (et_B (ev_SV mono_ix ⟨i, a, f.length⟩ (ea_cons (ev_var rfl) (ea_cons (ev_var rfl) ea_nil)) (fl_ix hF i)))) (fun c H1 e1 => ?_) (fun c H1 e1 => ?_)
    · rw [rem_bad (nb c)] at k
      exact s_retL (el_lst (ea_cons ev_c ea_nil) (by show 1 ≤ 100000; decide)) fun p H2 hp e2 h2 => k p H2 (fresh_back e1 hp) (ExB.of (e1.trans e2)) h2 (hF.mono (e1.trans e2))
    · have hi : Sr115.isPiece f i = true := nf c
      rw [rem_ok hi] at k
      obtain ⟨i0, i1⟩ := (index_iff i f.length).mp hi
      obtain ⟨zs, g1, g2, g3⟩ := hF.mono e1
      have hj : i.toNat < (refs zs).length := by
        rw [objs_len g2]
        omega
      have h7 := hk.1
      refine q_pop (j := i.toNat) g1 (ev_var rfl) (ev_is (ev_var rfl) (congrArg V.int (by omega))) hj (by rw [objs_len g2]; omega) fun H2 e2 => ?_
      have hN := Objs.erase (j := i.toNat) sep_tup g1 g3 e2
      rw [g2] at hN
      refine s_retL (xs := [.int ((f.length - 1 : Nat) : Int)]) (el_lst (ea_cons (ev_is (ev_lenO (ev_var rfl) hN) (congrArg V.int ?_)) ea_nil) (by show 1 ≤ 100000; decide)) fun p H4 hp e4 h4 => ?_
      · rw [List.length_eraseIdx, if_pos (by omega)]
      · exact k p H4 (fresh_back (e1.trans e2) (upd_back hp)) (((ExB.of (e1.trans e2)).trans ExB.upd).trans (ExB.of e4)) h4 (hN.mono e4)
/-! ### set_piece -/
abbrev s_set_piece : Stmt := topS 39
theorem sc_set_piece : FnScope ["pieces", "i", "left", "right", "old"] ["pieces", "i", "left", "right"] (defScope s_set_piece) := ⟨rfl, rfl, rfl, by decide +kernel, rfl, by decide +kernel, by decide +kernel⟩

def spSet : Sp := fun vs H Q _ => ∃ (a : Addr) (f : Floor) (i l r : Int), vs = [.ref a, .int i, .int l, .int r] ∧ Fl H a f ∧ Fok f ∧ RetM a (newP f (.setPiece i l r)) (iV (ansP f (.setPiece i l r))) H Q
theorem ok_set (F : Top K mg "set_piece" s_set_piece ["pieces", "i", "left", "right"]) (T : Txt K mg) (D_is_index : Def P w K mg base "is_index" 1 ["number", "things"] spIdx) (D_is_mark : Def P w K mg base "is_mark" 1 ["number"] spIsMark) : Def P w K mg base "set_piece" 2 ["pieces", "i", "left", "right"] spSet := by
  refine Def.of F sc_set_piece (fun vs H Q E h => ?_) (fun ff cdv A outer s H vs Q E hr h => ?_)
  · obtain ⟨a, f, i, l, r, rfl, _⟩ := h
    rfl
  · obtain ⟨a, f, i, l, r, rfl, hF, hk, k⟩ := h
    obtain ⟨_, g_NOT_THERE⟩ := T.c_NOT_THERE
    obtain ⟨_, g_OUT_OF_RANGE⟩ := T.c_OUT_OF_RANGE
    
    refine ⟨_, (pss_cons (ps_if (pt_not (pt_val (pe_callD D_is_index (hr.mono (by decide)) rfl (pa_cons (pv 1) (pa_cons (pv 0) pa_nil))))) (pss_one (ps_ret (pe_lst (pa_cons (pe_glob (v := .int (-2)) rfl g_NOT_THERE ⟨_, rfl⟩) pa_nil)))) pss_nil)
      (pss_cons (ps_if (PW.pt (pw_or (pt_not (pt_val (pe_callD D_is_mark (hr.mono (by decide)) rfl (pa_cons (pv 2) pa_nil)))) (pw_or1 (pt_not (pt_val (pe_callD D_is_mark (hr.mono (by decide)) rfl (pa_cons (pv 3) pa_nil))))))) (pss_one (ps_ret (pe_lst (pa_cons (pe_glob (v := .int (-22)) rfl g_OUT_OF_RANGE ⟨_, rfl⟩) pa_nil)))) pss_nil)
      (pss_cons (ps_set (i := 4) sc_set_piece.nd rfl (Or.inl rfl) (pe_ix (ix_listK (K := K)) (pv 0) (pv 1) (fun _ _ => rfl)))
      (pss_cons (ps_asg (pe_tup (pa_cons (pv 2) (pa_cons (pv 3) pa_nil))) (pg_sub (pv 0) (pv 1) set_list))
      (pss_one (ps_ret (pe_lst (pa_cons pe_int (pa_cons (pe_ix (ix_tupK (K := K)) (pv 4) pe_int (fun _ _ => rfl)) (pa_cons (pe_ix (ix_tupK (K := K)) (pv 4) pe_int (fun _ _ => rfl)) pa_nil)))))))))), ?_⟩
    unfold ansP newP at k
    refine q_when (b := !(Sr115.isPiece f i)) (et_not (et_B (ev_SV mono_ix ⟨i, a, f.length⟩ (ea_cons (ev_var rfl) (ea_cons (ev_var rfl) ea_nil)) (fl_ix hF i)))) (fun c H1 e1 => ?_) (fun c H1 e1 => ?_)
    · rw [set_bad (nb c)] at k
      exact s_retL (el_lst (ea_cons ev_c ea_nil) (by show 1 ≤ 100000; decide)) fun p H2 hp e2 h2 => k p H2 (fresh_back e1 hp) (ExB.of (e1.trans e2)) h2 (hF.mono (e1.trans e2))
    · have hi : Sr115.isPiece f i = true := nf c
      obtain ⟨i0, i1⟩ := (index_iff i f.length).mp hi
      refine q_when (et_marks (l := l) (r := r) (ev_SV mono_true l (ea_cons (ev_var rfl) ea_nil) trivial) (ev_SV mono_true r (ea_cons (ev_var rfl) ea_nil) trivial)) (fun d H2 e2 => ?_) (fun d H2 e2 => ?_)
      · rw [set_bad2 hi (nb d)] at k
        have e12 := e1.trans e2
        exact s_retL (el_lst (ea_cons ev_c ea_nil) (by show 1 ≤ 100000; decide)) fun p H3 hp e3 h3 => k p H3 (fresh_back e12 hp) (ExB.of (e12.trans e3)) h3 (hF.mono (e12.trans e3))
      · have hm : (Sr115.isMark l && Sr115.isMark r) = true := nf d
        rw [set_ok hi hm] at k
        rw [Bool.and_eq_true, mark_iff, mark_iff] at hm
        have e12 := e1.trans e2
        have hF2 := hF.mono e12
        obtain ⟨xs, t, x1, x2, x3, x4⟩ := hF2.get (at_pieces (f := f) (i := i.toNat) (by omega))
        have ht : t ≠ a := fun z => by
          rw [z, x1] at x4
          cases Option.some.inj x4
        refine q_asg (ev_op (ev_var rfl) (ev_var rfl) (rv_ixL (sq_of x1) (atI_int i0 x3))) fun H3 e3 => ?_
        obtain ⟨zs, g1, g2, g3⟩ := hF2.mono e3
        have hj : i.toNat < (refs zs).length := by
          rw [objs_len g2]
          omega
        refine q_setU (j := i.toNat) g1 (eu_tup (ea_cons (ev_var rfl) (ea_cons (ev_var rfl) ea_nil)) (by show 2 ≤ 100000; decide)) (ev_var rfl) (ev_is (ev_var rfl) (congrArg V.int (by omega))) hj fun q H4 hq e4 h4 => ?_
        rw [tup_of hm.1.1 hm.2.1] at h4
        have hqa : q ≠ a := fun z => by
          rw [z, g1] at hq
          cases hq
        have hN := Objs.put (j := i.toNat) sep_tup g1 g3 e4 h4 hqa
        rw [g2] at hN
        have ht5 : (upd H4 a (.lst ((refs zs).set i.toNat (.ref q)))) t = some (tupO (pieceAt f i.toNat)) := by
          rw [upd_ne ht]
          exact e4 _ _ (e3 _ _ x4)
        refine s_retL (el_lst (ea_cons ev_c (ea_cons (ev_op (ev_var rfl) ev_c (rv_ixT (st_of ht5) (atI_nat (j := 0) rfl))) (ea_cons (ev_op (ev_var rfl) ev_c (rv_ixT (st_of ht5) (atI_nat (j := 1) rfl))) ea_nil))) (by show 3 ≤ 100000; decide)) fun p H5 hp e5 h5 => ?_
        exact k p H5 (fresh_back ((e12.trans e3).trans e4) (upd_back hp)) (((ExB.of ((e12.trans e3).trans e4)).trans ExB.upd).trans (ExB.of e5)) h5 (hN.mono e5)
end
end BB
namespace BB
open PySem PySem.Spec PyProof.Rows L2 Evl
open Sr115 (Floor pieceAt Piece)
section
variable {P : Program} {w : World} {K : PySem.W.Frag} {mg : Str → Option Value} {base : Heap}
/-! ### chain_count, chain -/
abbrev s_chain_count : Stmt := topS 40
theorem sc_chain_count : FnScope ["pieces"] ["pieces"] (defScope s_chain_count) := ⟨rfl, rfl, rfl, by decide +kernel, rfl, by decide +kernel, by decide +kernel⟩

def spQ0 (c : Cl115) : Sp := SL (fun x : PF => [.ref x.a]) preF (fun x => iV (ansP x.f c))
structure PI where
  a : Addr
  f : Floor
  i : Int
def preI (x : PI) (H : Hp) : Prop := Fl H x.a x.f ∧ Fok x.f
theorem mono_I : Mono preI := fun x H H' e h => ⟨h.1.mono e, h.2⟩
def spQ1 (c : Int → Cl115) : Sp := SL (fun x : PI => [.ref x.a, .int x.i]) preI (fun x => iV (ansP x.f (c x.i)))
theorem ok_count (F : Top K mg "chain_count" s_chain_count ["pieces"]) (T : Txt K mg) (D_complete_chains : Def P w K mg base "complete_chains" 3 ["pieces"] spComplete) : Def P w K mg base "chain_count" 4 ["pieces"] (spQ0 .chainCount) := by
  refine Def.of F sc_chain_count (fun vs H Q E h => ?_) (fun ff cdv A outer s H vs Q E hr h => ?_)
  · obtain ⟨x, rfl, _⟩ := h
    rfl
  · obtain ⟨⟨a, f⟩, rfl, ⟨hF, hk⟩, k⟩ := h
    replace hF : Fl H a f := hF
    replace hk : Fok f := hk
    replace k : RetL (iV [((Sr115.completeChains f).length : Int)]) H Q := k
    refine ⟨_, (pss_one (ps_ret (pe_lst (pa_cons (pe_callB call_len_seq (by rfl) T.len PySem.boot_len (pa_cons (pe_callD D_complete_chains (hr.mono (by decide)) rfl (pa_cons (pv 0) pa_nil)) pa_nil)) pa_nil)))), ?_⟩
    exact s_retL (xs := iV [((Sr115.completeChains f).length : Int)]) (el_lst (ea_cons (ev_is (ev_lenB (eb_SB mono_F ⟨a, f⟩ (ea_cons (ev_var rfl) ea_nil) ⟨hF, hk⟩)) (congrArg (fun n : Nat => V.int (n : Int)) (List.length_map _))) ea_nil) (by show 1 ≤ 100000; decide)) fun p H2 hp e2 h2 => k p H2 hp e2 h2
abbrev s_chain : Stmt := topS 41
theorem sc_chain : FnScope ["pieces", "k", "found"] ["pieces", "k"] (defScope s_chain) := ⟨rfl, rfl, rfl, by decide +kernel, rfl, by decide +kernel, by decide +kernel⟩

/-- a list of rows, one of them told by a number -/
theorem rows_get {H : Hp} {p : Addr} {L : List (List Nat)} {r : List Nat} {i : Nat} (h : Rows H p (L.map nI)) (hr : L[i]? = some r) : ∃ xs t, H p = some (.lst xs) ∧ xs[i]? = some (V.ref t) ∧ H t = some (.lst (iV (nI r))) := by
  have hr1 : (L.map nI)[i]? = some (nI r) := by
    rw [List.getElem?_map, hr]
    rfl
  obtain ⟨xs, t, t1, _, t3, t4⟩ := h.get hr1
  exact ⟨xs, t, t1, t3, t4⟩
theorem rows_ix {H : Hp} {p : Addr} {L : List (List Nat)} (h : Rows H p (L.map nI)) (i : Int) : preIx ⟨i, p, L.length⟩ H := by
  obtain ⟨xs, h1, h2⟩ := h.len
  exact ⟨xs, h1, by rw [h2, List.length_map]⟩
theorem ok_chain (F : Top K mg "chain" s_chain ["pieces", "k"]) (T : Txt K mg) (D_complete_chains : Def P w K mg base "complete_chains" 3 ["pieces"] spComplete) (D_is_index : Def P w K mg base "is_index" 1 ["number", "things"] spIdx) : Def P w K mg base "chain" 4 ["pieces", "k"] (spQ1 .chain) := by
  refine Def.of F sc_chain (fun vs H Q E h => ?_) (fun ff cdv A outer s H vs Q E hr h => ?_)
  · obtain ⟨x, rfl, _⟩ := h
    rfl
  · obtain ⟨⟨a, f, i⟩, rfl, ⟨hF, hk⟩, k⟩ := h
    replace hF : Fl H a f := hF
    replace hk : Fok f := hk
    replace k : RetL (iV (resL (Sr115.elementResult (Sr115.completeChains f) i))) H Q := k
    obtain ⟨_, g_NOT_THERE⟩ := T.c_NOT_THERE
    
    refine ⟨_, (pss_cons (ps_set (i := 2) sc_chain.nd rfl (Or.inl rfl) (pe_callD D_complete_chains (hr.mono (by decide)) rfl (pa_cons (pv 0) pa_nil)))
      (pss_cons (ps_if (pt_not (pt_val (pe_callD D_is_index (hr.mono (by decide)) rfl (pa_cons (pv 1) (pa_cons (pv 2) pa_nil))))) (pss_one (ps_ret (pe_lst (pa_cons (pe_glob (v := .int (-2)) rfl g_NOT_THERE ⟨_, rfl⟩) pa_nil)))) pss_nil)
      (pss_one (ps_ret (pe_op op_cat (pe_lst (pa_cons (pe_callB call_len_seq (by rfl) T.len PySem.boot_len (pa_cons (pv 0) pa_nil)) pa_nil)) (pe_ix (ix_listK (K := K)) (pv 2) (pv 1) (fun _ _ => rfl))))))), ?_⟩
    refine q_asgB (eb_SB mono_F ⟨a, f⟩ (ea_cons (ev_var rfl) ea_nil) ⟨hF, hk⟩) fun p H1 hp e1 hO => ?_
    refine q_when (b := !(SrCommon.isIndex i (Sr115.completeChains f).length)) (et_not (et_B (ev_SV mono_ix ⟨i, p, _⟩ (ea_cons (ev_var rfl) (ea_cons (ev_var rfl) ea_nil)) (rows_ix hO i)))) (fun c H2 e2 => ?_) (fun c H2 e2 => ?_)
    · rw [elem_bad (nb c)] at k
      exact s_retL (el_lst (ea_cons ev_c ea_nil) (by show 1 ≤ 100000; decide)) fun q H3 hq e3 h3 => k q H3 (fresh_back (e1.trans e2) hq) ((e1.trans e2).trans e3) h3
    · have hi := nf c
      obtain ⟨r, hr1, hr2⟩ := elem_ok hi
      rw [hr2] at k
      obtain ⟨xs, t, x1, x2, x3⟩ := rows_get (hO.mono e2) hr1
      have row := complete_row (List.mem_of_getElem? hr1)
      refine s_retL (el_cat (xs := [.int (f.length : Int)]) (es_L (el_lst (ea_cons (ev_lenO (ev_var rfl) (hF.mono (e1.trans e2))) ea_nil) (by show 1 ≤ 100000; decide))) (es_ref (ev_op (ev_var rfl) (ev_var rfl) (rv_ixL (sq_of x1) (atI_int ((index_iff _ _).mp hi).1 x2))) x3) ?_) fun q H3 hq e3 h3 => k q H3 (fresh_back (e1.trans e2) hq) ((e1.trans e2).trans e3) ?_
      · rw [iV_len, nI_len, row.1]
        have := hk.1
        show 1 + f.length ≤ 10000000
        omega
      · rw [h3]
        show some (HO.lst (V.int (f.length : Int) :: iV (nI r))) = some (HO.lst (V.int (r.length : Int) :: iV (nI r)))
        rw [row.1]
/-! ### single_chain_possible, min_chains, excesses, components -/
abbrev s_single_chain_possible : Stmt := topS 42
theorem sc_single_chain_possible : FnScope ["pieces"] ["pieces"] (defScope s_single_chain_possible) := ⟨rfl, rfl, rfl, by decide +kernel, rfl, by decide +kernel, by decide +kernel⟩

theorem ok_single (F : Top K mg "single_chain_possible" s_single_chain_possible ["pieces"]) (T : Txt K mg) (D_fewest_chains : Def P w K mg base "fewest_chains" 4 ["pieces"] spFew) : Def P w K mg base "single_chain_possible" 5 ["pieces"] (spQ0 .singleChainPossible) := by
  refine Def.of F sc_single_chain_possible (fun vs H Q E h => ?_) (fun ff cdv A outer s H vs Q E hr h => ?_)
  · obtain ⟨x, rfl, _⟩ := h
    rfl
  · obtain ⟨⟨a, f⟩, rfl, ⟨hF, hk⟩, k⟩ := h
    replace hF : Fl H a f := hF
    replace hk : Fok f := hk
    replace k : RetL (iV [SrCommon.boolToInt (decide (Sr115.minChains f ≤ 1))]) H Q := k
    refine ⟨_, (pss_one (ps_ret (pe_lst (pa_cons (pe_ifExp (pt_cmpR op_le (pe_callD D_fewest_chains (hr.mono (by decide)) rfl (pa_cons (pv 0) pa_nil)) pe_int (nomark _)) pe_int pe_int) pa_nil)))), ?_⟩
    refine s_retL (xs := iV [SrCommon.boolToInt (decide (Sr115.minChains f ≤ 1))]) (el_lst (ea_cons (ev_if (b := decide (Sr115.minChains f ≤ 1)) (et_test (ev_is (ev_op (ev_SV mono_F ⟨a, f⟩ (ea_cons (ev_var rfl) ea_nil) ⟨hF, hk⟩) ev_c rv_I0) (congrArg V.bl (decide_eq_decide.mpr ?_)))) (fun c => ?_) (fun c => ?_)) ea_nil) (by show 1 ≤ 100000; decide)) fun p H2 hp e2 h2 => k p H2 hp e2 h2
    · show ((Sr115.minChains f : Int) ≤ 1) ↔ _
      omega
    · rw [c]
      exact ev_c
    · rw [c]
      exact ev_c
abbrev s_min_chains : Stmt := topS 43
theorem sc_min_chains : FnScope ["pieces"] ["pieces"] (defScope s_min_chains) := ⟨rfl, rfl, rfl, by decide +kernel, rfl, by decide +kernel, by decide +kernel⟩

theorem ok_min (F : Top K mg "min_chains" s_min_chains ["pieces"]) (T : Txt K mg) (D_fewest_chains : Def P w K mg base "fewest_chains" 4 ["pieces"] spFew) : Def P w K mg base "min_chains" 5 ["pieces"] (spQ0 .minChains) := by
  refine Def.of F sc_min_chains (fun vs H Q E h => ?_) (fun ff cdv A outer s H vs Q E hr h => ?_)
  · obtain ⟨x, rfl, _⟩ := h
    rfl
  · obtain ⟨⟨a, f⟩, rfl, ⟨hF, hk⟩, k⟩ := h
    replace hF : Fl H a f := hF
    replace hk : Fok f := hk
    replace k : RetL (iV [(Sr115.minChains f : Int)]) H Q := k
    refine ⟨_, (pss_one (ps_ret (pe_lst (pa_cons (pe_callD D_fewest_chains (hr.mono (by decide)) rfl (pa_cons (pv 0) pa_nil)) pa_nil)))), ?_⟩
    exact s_retL (xs := iV [(Sr115.minChains f : Int)]) (el_lst (ea_cons (ev_SV mono_F ⟨a, f⟩ (ea_cons (ev_var rfl) ea_nil) ⟨hF, hk⟩) ea_nil) (by show 1 ≤ 100000; decide)) fun p H2 hp e2 h2 => k p H2 hp e2 h2
abbrev s_excesses : Stmt := topS 44
theorem sc_excesses : FnScope ["pieces", "found"] ["pieces"] (defScope s_excesses) := ⟨rfl, rfl, rfl, by decide +kernel, rfl, by decide +kernel, by decide +kernel⟩

theorem ok_excesses (F : Top K mg "excesses" s_excesses ["pieces"]) (T : Txt K mg) (D_excess_of_each_mark : Def P w K mg base "excess_of_each_mark" 1 ["pieces"] spEx) : Def P w K mg base "excesses" 2 ["pieces"] (spQ0 .excesses) := by
  refine Def.of F sc_excesses (fun vs H Q E h => ?_) (fun ff cdv A outer s H vs Q E hr h => ?_)
  · obtain ⟨x, rfl, _⟩ := h
    rfl
  · obtain ⟨⟨a, f⟩, rfl, ⟨hF, hk⟩, k⟩ := h
    replace hF : Fl H a f := hF
    replace hk : Fok f := hk
    replace k : RetL (iV (6 :: exM f)) H Q := k
    refine ⟨_, (pss_cons (ps_set (i := 1) sc_excesses.nd rfl (Or.inl rfl) (pe_callD D_excess_of_each_mark (hr.mono (by decide)) rfl (pa_cons (pv 0) pa_nil)))
      (pss_one (ps_ret (pe_op op_cat (pe_lst (pa_cons (pe_callB call_len_seq (by rfl) T.len PySem.boot_len (pa_cons (pv 1) pa_nil)) pa_nil)) (pv 1))))), ?_⟩
    refine q_asgL (el_SL mono_F ⟨a, f⟩ (ea_cons (ev_var rfl) ea_nil) ⟨hF, hk⟩) fun p H1 hp e1 h1 => ?_
    refine s_retL (el_cat (xs := [.int 6]) (es_L (el_lst (ea_cons (ev_is (ev_len (ev_var rfl) (sq_of h1)) (congrArg (fun n : Nat => V.int (n : Int)) ?_)) ea_nil) (by show 1 ≤ 100000; decide))) (es_ref (ev_var rfl) h1) ?_) fun q H3 hq e3 h3 => k q H3 (fresh_back e1 hq) (e1.trans e3) h3
    · rw [iV_len, exM_len]
    · rw [iV_len, exM_len]
      decide
abbrev s_components : Stmt := topS 45
theorem sc_components : FnScope ["pieces", "names"] ["pieces"] (defScope s_components) := ⟨rfl, rfl, rfl, by decide +kernel, rfl, by decide +kernel, by decide +kernel⟩

theorem comps_len (f : Floor) : (Sr115.components f).length ≤ 6 := by
  have h1 : (Sr115.components f).length ≤ (Sr115.usedMarks f).length := List.length_filter_le _ _
  have h2 := good_len (s := Sr115.usedMarks f) ⟨used_nodup f, fun x hx => used_lt hx⟩
  omega
theorem ok_components (F : Top K mg "components" s_components ["pieces"]) (T : Txt K mg) (D_component_names : Def P w K mg base "component_names" 3 ["pieces"] spCNames) : Def P w K mg base "components" 4 ["pieces"] (spQ0 .components) := by
  refine Def.of F sc_components (fun vs H Q E h => ?_) (fun ff cdv A outer s H vs Q E hr h => ?_)
  · obtain ⟨x, rfl, _⟩ := h
    rfl
  · obtain ⟨⟨a, f⟩, rfl, ⟨hF, hk⟩, k⟩ := h
    replace hF : Fl H a f := hF
    replace hk : Fok f := hk
    replace k : RetL (iV (((Sr115.components f).length : Int) :: nI (Sr115.components f))) H Q := k
    refine ⟨_, (pss_cons (ps_set (i := 1) sc_components.nd rfl (Or.inl rfl) (pe_callD D_component_names (hr.mono (by decide)) rfl (pa_cons (pv 0) pa_nil)))
      (pss_one (ps_ret (pe_op op_cat (pe_lst (pa_cons (pe_callB call_len_seq (by rfl) T.len PySem.boot_len (pa_cons (pv 1) pa_nil)) pa_nil)) (pv 1))))), ?_⟩
    refine q_asgL (el_SL mono_F ⟨a, f⟩ (ea_cons (ev_var rfl) ea_nil) ⟨hF, hk⟩) fun p H1 hp e1 h1 => ?_
    refine s_retL (el_cat (xs := [.int ((Sr115.components f).length : Int)]) (es_L (el_lst (ea_cons (ev_is (ev_len (ev_var rfl) (sq_of h1)) (congrArg (fun n : Nat => V.int (n : Int)) ?_)) ea_nil) (by show 1 ≤ 100000; decide))) (es_ref (ev_var rfl) h1) ?_) fun q H3 hq e3 h3 => k q H3 (fresh_back e1 hq) (e1.trans e3) h3
    · rw [iV_len, nI_len]
    · have := comps_len f
      rw [iV_len, nI_len]
      show 1 + (Sr115.components f).length ≤ 10000000
      omega
/-! ### circuit_count, circuit, tree_count -/
abbrev s_circuit_count : Stmt := topS 46
theorem sc_circuit_count : FnScope ["pieces"] ["pieces"] (defScope s_circuit_count) := ⟨rfl, rfl, rfl, by decide +kernel, rfl, by decide +kernel, by decide +kernel⟩

theorem ok_ccount (F : Top K mg "circuit_count" s_circuit_count ["pieces"]) (T : Txt K mg) (D_circuits : Def P w K mg base "circuits" 4 ["pieces"] spCircuits) (D_circuits_by_trees : Def P w K mg base "circuits_by_trees" 5 ["pieces"] spCbt) : Def P w K mg base "circuit_count" 6 ["pieces"] (spQ0 .circuitCount) := by
  refine Def.of F sc_circuit_count (fun vs H Q E h => ?_) (fun ff cdv A outer s H vs Q E hr h => ?_)
  · obtain ⟨x, rfl, _⟩ := h
    rfl
  · obtain ⟨⟨a, f⟩, rfl, ⟨hF, hk⟩, k⟩ := h
    replace hF : Fl H a f := hF
    replace hk : Fok f := hk
    replace k : RetL (iV [((Sr115.circuits f).length : Int), (Sr115.circuitCountByTrees f : Int)]) H Q := k
    refine ⟨_, (pss_one (ps_ret (pe_lst (pa_cons (pe_callB call_len_seq (by rfl) T.len PySem.boot_len (pa_cons (pe_callD D_circuits (hr.mono (by decide)) rfl (pa_cons (pv 0) pa_nil)) pa_nil)) (pa_cons (pe_callD D_circuits_by_trees (hr.mono (by decide)) rfl (pa_cons (pv 0) pa_nil)) pa_nil))))), ?_⟩
    exact s_retL (xs := iV [((Sr115.circuits f).length : Int), (Sr115.circuitCountByTrees f : Int)]) (el_lst (ea_cons (ev_is (ev_lenB (eb_SB mono_F ⟨a, f⟩ (ea_cons (ev_var rfl) ea_nil) ⟨hF, hk⟩)) (congrArg (fun n : Nat => V.int (n : Int)) (List.length_map _))) (ea_cons (ev_SV mono_F ⟨a, f⟩ (ea_cons (ev_var rfl) ea_nil) ⟨hF, hk⟩) ea_nil)) (by show 2 ≤ 100000; decide)) fun p H2 hp e2 h2 => k p H2 hp e2 h2
abbrev s_circuit : Stmt := topS 47
theorem sc_circuit : FnScope ["pieces", "k", "found"] ["pieces", "k"] (defScope s_circuit) := ⟨rfl, rfl, rfl, by decide +kernel, rfl, by decide +kernel, by decide +kernel⟩

theorem ok_circuit (F : Top K mg "circuit" s_circuit ["pieces", "k"]) (T : Txt K mg) (D_circuits : Def P w K mg base "circuits" 4 ["pieces"] spCircuits) (D_is_index : Def P w K mg base "is_index" 1 ["number", "things"] spIdx) : Def P w K mg base "circuit" 5 ["pieces", "k"] (spQ1 .circuit) := by
  refine Def.of F sc_circuit (fun vs H Q E h => ?_) (fun ff cdv A outer s H vs Q E hr h => ?_)
  · obtain ⟨x, rfl, _⟩ := h
    rfl
  · obtain ⟨⟨a, f, i⟩, rfl, ⟨hF, hk⟩, k⟩ := h
    replace hF : Fl H a f := hF
    replace hk : Fok f := hk
    replace k : RetL (iV (resL (Sr115.elementResult (Sr115.circuits f) i))) H Q := k
    obtain ⟨_, g_NOT_THERE⟩ := T.c_NOT_THERE
    
    refine ⟨_, (pss_cons (ps_set (i := 2) sc_circuit.nd rfl (Or.inl rfl) (pe_callD D_circuits (hr.mono (by decide)) rfl (pa_cons (pv 0) pa_nil)))
      (pss_cons (ps_if (pt_not (pt_val (pe_callD D_is_index (hr.mono (by decide)) rfl (pa_cons (pv 1) (pa_cons (pv 2) pa_nil))))) (pss_one (ps_ret (pe_lst (pa_cons (pe_glob (v := .int (-2)) rfl g_NOT_THERE ⟨_, rfl⟩) pa_nil)))) pss_nil)
      (pss_one (ps_ret (pe_op op_cat (pe_lst (pa_cons (pe_callB call_len_seq (by rfl) T.len PySem.boot_len (pa_cons (pv 0) pa_nil)) pa_nil)) (pe_ix (ix_listK (K := K)) (pv 2) (pv 1) (fun _ _ => rfl))))))), ?_⟩
    refine q_asgB (eb_SB mono_F ⟨a, f⟩ (ea_cons (ev_var rfl) ea_nil) ⟨hF, hk⟩) fun p H1 hp e1 hO => ?_
    refine q_when (b := !(SrCommon.isIndex i (Sr115.circuits f).length)) (et_not (et_B (ev_SV mono_ix ⟨i, p, _⟩ (ea_cons (ev_var rfl) (ea_cons (ev_var rfl) ea_nil)) (rows_ix hO i)))) (fun c H2 e2 => ?_) (fun c H2 e2 => ?_)
    · rw [elem_bad (nb c)] at k
      exact s_retL (el_lst (ea_cons ev_c ea_nil) (by show 1 ≤ 100000; decide)) fun q H3 hq e3 h3 => k q H3 (fresh_back (e1.trans e2) hq) ((e1.trans e2).trans e3) h3
    · have hi := nf c
      obtain ⟨r, hr1, hr2⟩ := elem_ok hi
      rw [hr2] at k
      obtain ⟨xs, t, x1, x2, x3⟩ := rows_get (hO.mono e2) hr1
      have row := circuits_row (List.mem_of_getElem? hr1)
      refine s_retL (el_cat (xs := [.int (f.length : Int)]) (es_L (el_lst (ea_cons (ev_lenO (ev_var rfl) (hF.mono (e1.trans e2))) ea_nil) (by show 1 ≤ 100000; decide))) (es_ref (ev_op (ev_var rfl) (ev_var rfl) (rv_ixL (sq_of x1) (atI_int ((index_iff _ _).mp hi).1 x2))) x3) ?_) fun q H3 hq e3 h3 => k q H3 (fresh_back (e1.trans e2) hq) ((e1.trans e2).trans e3) ?_
      · rw [iV_len, nI_len, row.1]
        have := hk.1
        show 1 + f.length ≤ 10000000
        omega
      · rw [h3]
        show some (HO.lst (V.int (f.length : Int) :: iV (nI r))) = some (HO.lst (V.int (r.length : Int) :: iV (nI r)))
        rw [row.1]
abbrev s_tree_count : Stmt := topS 48
theorem sc_tree_count : FnScope ["pieces", "mark"] ["pieces", "mark"] (defScope s_tree_count) := ⟨rfl, rfl, rfl, by decide +kernel, rfl, by decide +kernel, by decide +kernel⟩

theorem tree_bad {f : Floor} {m : Int} (h : Sr115.isMark m = false) : Sr115.perform f (.treeCount m) = (none, ⟨-22, []⟩) := by
  show (none, if Sr115.isMark m = false then _ else _) = _
  rw [if_pos h]
  rfl
theorem tree_un {f : Floor} {m : Int} (h : Sr115.isMark m = true) (h2 : (Sr115.usedMarks f).contains m.toNat = false) : Sr115.perform f (.treeCount m) = (none, ⟨-6, []⟩) := by
  show (none, if Sr115.isMark m = false then _ else if (Sr115.usedMarks f).contains m.toNat = false then _ else _) = _
  rw [if_neg (by rw [h]; decide), if_pos h2]
  rfl
theorem tree_ok {f : Floor} {m : Int} (h : Sr115.isMark m = true) (h2 : (Sr115.usedMarks f).contains m.toNat = true) : Sr115.perform f (.treeCount m) = (none, ⟨(Sr115.treeCount f m.toNat : Int), []⟩) := by
  show (none, if Sr115.isMark m = false then _ else if (Sr115.usedMarks f).contains m.toNat = false then _ else _) = _
  rw [if_neg (by rw [h]; decide), if_neg (by rw [h2]; decide)]
  rfl
theorem ok_tcount (F : Top K mg "tree_count" s_tree_count ["pieces", "mark"]) (T : Txt K mg) (D_is_mark : Def P w K mg base "is_mark" 1 ["number"] spIsMark) (D_used_marks : Def P w K mg base "used_marks" 1 ["pieces"] spUsed) (D_number_of_trees : Def P w K mg base "number_of_trees" 4 ["pieces", "target"] spTrees) : Def P w K mg base "tree_count" 5 ["pieces", "mark"] (spQ1 .treeCount) := by
  refine Def.of F sc_tree_count (fun vs H Q E h => ?_) (fun ff cdv A outer s H vs Q E hr h => ?_)
  · obtain ⟨x, rfl, _⟩ := h
    rfl
  · obtain ⟨⟨a, f, i⟩, rfl, ⟨hF, hk⟩, k⟩ := h
    replace hF : Fl H a f := hF
    replace hk : Fok f := hk
    replace k : RetL (iV (resL (Sr115.perform f (.treeCount i)).2)) H Q := k
    obtain ⟨_, g_OUT_OF_RANGE⟩ := T.c_OUT_OF_RANGE
    obtain ⟨_, g_NOT_USED⟩ := T.c_NOT_USED
    
    refine ⟨_, (pss_cons (ps_if (pt_not (pt_val (pe_callD D_is_mark (hr.mono (by decide)) rfl (pa_cons (pv 1) pa_nil)))) (pss_one (ps_ret (pe_lst (pa_cons (pe_glob (v := .int (-22)) rfl g_OUT_OF_RANGE ⟨_, rfl⟩) pa_nil)))) pss_nil)
      (pss_cons (ps_if (pt_cmpR (op_notIn_seqK (K := K)) (pv 1) (pe_callD D_used_marks (hr.mono (by decide)) rfl (pa_cons (pv 0) pa_nil)) (by rfl)) (pss_one (ps_ret (pe_lst (pa_cons (pe_glob (v := .int (-6)) rfl g_NOT_USED ⟨_, rfl⟩) pa_nil)))) pss_nil)
      (pss_one (ps_ret (pe_lst (pa_cons (pe_callD D_number_of_trees (hr.mono (by decide)) rfl (pa_cons (pv 0) (pa_cons (pv 1) pa_nil))) pa_nil)))))), ?_⟩
    refine q_when (b := !(Sr115.isMark i)) (et_not (et_B (ev_SV mono_true i (ea_cons (ev_var rfl) ea_nil) trivial))) (fun c H1 e1 => ?_) (fun c H1 e1 => ?_)
    · rw [tree_bad (nb c)] at k
      exact s_retL (el_lst (ea_cons ev_c ea_nil) (by show 1 ≤ 100000; decide)) fun q H3 hq e3 h3 => k q H3 (fresh_back e1 hq) (e1.trans e3) h3
    · have hm := nf c
      obtain ⟨i0, i6⟩ := (mark_iff i).mp hm
      obtain ⟨m, rfl⟩ : ∃ m : Nat, i = (m : Int) := ⟨i.toNat, by omega⟩
      refine q_when (b := !((Sr115.usedMarks f).contains m)) (et_test (ev_is (ev_opL (ev_var rfl) (el_SL mono_F ⟨a, f⟩ (ea_cons (ev_var rfl) ea_nil) ⟨hF.mono e1, hk⟩) fun q H2 hq e2 => rv_niL (sq_of hq) rfl (iV_flat _)) (congrArg (fun z => V.bl (!z)) (in_nI m _)))) (fun d H2 e2 => ?_) (fun d H2 e2 => ?_)
      · rw [tree_un hm (nb d)] at k
        exact s_retL (el_lst (ea_cons ev_c ea_nil) (by show 1 ≤ 100000; decide)) fun q H3 hq e3 h3 => k q H3 (fresh_back (e1.trans e2) hq) ((e1.trans e2).trans e3) h3
      · rw [tree_ok hm (nf d)] at k
        refine s_retL (xs := iV [(treesM f m : Int)]) (el_lst (ea_cons (ev_SV mono_PM ⟨a, f, m⟩ (ea_cons (ev_var rfl) (ea_cons (ev_var rfl) ea_nil)) ⟨hF.mono (e1.trans e2), hk, by show m < 6; omega⟩) ea_nil) (by show 1 ≤ 100000; decide)) fun q H3 hq e3 h3 => k q H3 (fresh_back (e1.trans e2) hq) ((e1.trans e2).trans e3) ?_
        rw [h3, trees_eq hk.2 (by omega)]
        rfl
end
end BB
namespace BB
open PySem PySem.Spec PyProof.Rows L2 Evl
open Sr115 (Floor pieceAt Piece)
section
variable {P : Program} {w : World} {K : PySem.W.Frag} {mg : Str → Option Value} {base : Heap}
/-! ### check_chains -/
abbrev s_check_chains : Stmt := topS 49
theorem sc_check_chains : FnScope ["pieces", "numbers", "number", "valid"] ["pieces", "numbers"] (defScope s_check_chains) := ⟨rfl, rfl, rfl, by decide +kernel, rfl, by decide +kernel, by decide +kernel⟩

structure Ck where
  a : Addr
  b : Addr
  f : Floor
  ns : List Int
def preCk (x : Ck) (H : Hp) : Prop := Fl H x.a x.f ∧ Fok x.f ∧ SqL K H x.b (iV x.ns) ∧ x.ns.length ≤ 70
theorem mono_ck : Mono (preCk (K := K)) := fun x H H' e h => ⟨h.1.mono e, h.2.1, ex_l e h.2.2.1, h.2.2.2⟩
def spCheck (K : PySem.W.Frag) : Sp := SL (fun x : Ck => [.ref x.a, .ref x.b]) (preCk (K := K)) (fun x => iV (ansP x.f (.checkChains x.ns)))
theorem iV_at {l : List Int} {i : Nat} {v : V} (h : (iV l)[i]? = some v) : ∃ n, l[i]? = some n ∧ v = .int n := by
  unfold iV at h
  rw [List.getElem?_map] at h
  cases hq : l[i]? with
  | none => rw [hq] at h; cases h
  | some n =>
    rw [hq] at h
    exact ⟨n, rfl, (Option.some.inj h).symm⟩
theorem takeI {l : List Int} {i : Nat} {n : Int} (h : l[i]? = some n) : l.take (i + 1) = l.take i ++ [n] := by
  rw [List.take_add_one, h]
  rfl
theorem bad_mem {f : Floor} {ns : List Int} {n : Int} (h : n ∈ ns) (hb : (n != -1 && !Sr115.isPiece f n) = true) : badB f ns = true := List.any_eq_true.mpr ⟨n, h, hb⟩
theorem ok_check (F : Top K mg "check_chains" s_check_chains ["pieces", "numbers"]) (T : Txt K mg) (D_is_index : Def P w K mg base "is_index" 1 ["number", "things"] spIdx) (D_lays_all_pieces : Def P w K mg base "lays_all_pieces" 3 ["pieces", "numbers"] (spLays K)) (D_separated_lists : Def P w K mg base "separated_lists" 1 ["numbers"] (spSep K)) :
    Def P w K mg base "check_chains" 4 ["pieces", "numbers"] (spCheck K) := by
  refine Def.of F sc_check_chains (fun vs H Q E h => ?_) (fun ff cdv A outer s H vs Q E hr h => ?_)
  · obtain ⟨x, rfl, _⟩ := h
    rfl
  · obtain ⟨⟨a, b, f, ns⟩, rfl, ⟨hF, hk, hb, h70⟩, k⟩ := h
    replace hF : Fl H a f := hF
    replace hk : Fok f := hk
    replace hb : SqL K H b (iV ns) := hb
    replace h70 : ns.length ≤ 70 := h70
    replace k : RetL (iV (resL (Sr115.perform f (.checkChains ns)).2)) H Q := k
    obtain ⟨_, g_OUT_OF_RANGE⟩ := T.c_OUT_OF_RANGE
    obtain ⟨_, g_SEPARATOR⟩ := T.c_SEPARATOR
    
    refine ⟨_, (pss_cons (ps_if (pt_cmpR op_eq (pe_callB call_len_seq (by rfl) T.len PySem.boot_len (pa_cons (pv 1) pa_nil)) pe_int (nomark _)) (pss_one (ps_ret (pe_lst (pa_cons (pe_glob (v := .int (-22)) rfl g_OUT_OF_RANGE ⟨_, rfl⟩) pa_nil)))) pss_nil)
      (pss_cons (ps_for PassesOwn.never rfl (pi_listK (K := K) (pv 1)) (pg_name (i := 2) sc_check_chains.nd rfl (Or.inl rfl)) (pss_one (ps_if (PW.pt (pw_and (pt_cmpR op_ne (pv 2) (pe_glob (v := .int (-1)) rfl g_SEPARATOR ⟨_, rfl⟩) (nomark _)) (pw_and1 (pt_not (pt_val (pe_callD D_is_index (hr.mono (by decide)) rfl (pa_cons (pv 2) (pa_cons (pv 0) pa_nil)))))))) (pss_one (ps_ret (pe_lst (pa_cons (pe_glob (v := .int (-22)) rfl g_OUT_OF_RANGE ⟨_, rfl⟩) pa_nil)))) pss_nil)))
      (pss_cons (ps_set (i := 3) sc_check_chains.nd rfl (Or.inl rfl) (pe_ifExp (pt_val (pe_callD D_lays_all_pieces (hr.mono (by decide)) rfl (pa_cons (pv 0) (pa_cons (pv 1) pa_nil)))) pe_int pe_int))
      (pss_one (ps_ret (pe_lst (pa_cons (pv 3) (pa_cons (pe_callB call_len_seq (by rfl) T.len PySem.boot_len (pa_cons (pe_callD D_separated_lists (hr.mono (by decide)) rfl (pa_cons (pv 1) pa_nil)) pa_nil)) pa_nil)))))))), ?_⟩
    refine q_when (b := ns.length == 0) (et_test (ev_is (ev_op (ev_len (ev_var rfl) hb) ev_c (rv_eq rfl)) (by rw [iV_len]; exact congrArg V.bl (dec_nat _ 0)))) (fun c H1 e1 => ?_) (fun c H1 e1 => ?_)
    · rw [check_bad (.inl (List.eq_nil_of_length_eq_zero (eq_of_beq c)))] at k
      exact s_retL (el_lst (ea_cons ev_c ea_nil) (by show 1 ≤ 100000; decide)) fun q H3 hq e3 h3 => k q H3 (fresh_back e1 hq) (e1.trans e3) h3
    · have ne : ns ≠ [] := fun z => by rw [z] at c; cases c
      refine q_forLn (xs := iV ns) (ev_var rfl) (ex_l e1 hb) (fun i σ' H' => ∃ v2, σ' = [some (.ref a), some (.ref b), v2, none] ∧ Ex H H' ∧ badB f (ns.take i) = false) (fun H2 e2 => ⟨none, rfl, e1.trans e2, rfl⟩) (fun i σ' H' _ q => ?_) (fun i v σ' H' hv q => ?_) (fun σ' H' q => ?_)
      · obtain ⟨_, _, ee, _⟩ := q
        exact ex_l ee hb
      · obtain ⟨v2, rfl, ee, hg⟩ := q
        obtain ⟨n, hn, rfl⟩ := iV_at hv
        refine s_when (b := n != -1 && !Sr115.isPiece f n) (et_and (et_test (ev_is (ev_op (ev_var rfl) ev_c (rv_ne rfl)) (congrArg (fun z => V.bl (!z)) dec_int))) (fun _ => et_not (et_B (ev_SV mono_ix ⟨n, a, f.length⟩ (ea_cons (ev_var rfl) (ea_cons (ev_var rfl) ea_nil)) (fl_ix (hF.mono ee) n))))) (fun d H2 e2 => ?_) (fun d H2 e2 => ?_)
        · rw [check_bad (.inr (bad_mem (List.mem_of_getElem? hn) d))] at k
          exact s_retL (el_lst (ea_cons ev_c ea_nil) (by show 1 ≤ 100000; decide)) fun q H3 hq e3 h3 => k q H3 (fresh_back (ee.trans e2) hq) ((ee.trans e2).trans e3) h3
        · refine ⟨_, rfl, ee.trans e2, ?_⟩
          unfold badB at hg ⊢
          rw [takeI hn, List.any_append, hg, Bool.false_or]
          show ((n != -1 && !Sr115.isPiece f n) || false) = false
          rw [d]
          rfl
      · obtain ⟨v2, rfl, ee, hg⟩ := q
        rw [iV_len, List.take_length] at hg
        rw [check_ok ne hg] at k
        have hin : ∀ n ∈ ns, n = -1 ∨ (0 ≤ n ∧ n < f.length) := fun n hn => by
          by_cases z : n = -1
          · exact .inl z
          · refine .inr ((index_iff n f.length).mp ?_)
            cases y : SrCommon.isIndex n f.length with
            | true => rfl
            | false =>
              have : badB f ns = true := bad_mem hn (by
                have y' : Sr115.isPiece f n = false := y
                rw [y', Bool.and_eq_true]
                exact ⟨by simpa using z, rfl⟩)
              rw [hg] at this
              cases this
        refine q_asg (v := .int (SrCommon.boolToInt (laysB f ns))) (ev_if (b := laysB f ns) (et_B (ev_SV mono_lays ⟨a, b, f, ns⟩ (ea_cons (ev_var rfl) (ea_cons (ev_var rfl) ea_nil)) ⟨hF.mono ee, ex_l ee hb, hk.1, h70, hin⟩)) (fun d => ?_) (fun d => ?_)) fun H2 e2 => ?_
        · rw [d]
          exact ev_c
        · rw [d]
          exact ev_c
        · exact s_retL (xs := iV [SrCommon.boolToInt (laysB f ns), ((Sr115.splitChains ns).length : Int)]) (el_lst (ea_cons (ev_var rfl) (ea_cons (ev_lenB (eb_SB mono_ns ⟨b, ns⟩ (ea_cons (ev_var rfl) ea_nil) ⟨ex_l (ee.trans e2) hb, h70⟩)) ea_nil)) (by show 2 ≤ 100000; decide)) fun q H3 hq e3 h3 => k q H3 (fresh_back (ee.trans e2) hq) ((ee.trans e2).trans e3) h3
/-! ### chains_from -/
abbrev s_chains_from : Stmt := topS 50
theorem sc_chains_from : FnScope ["pieces", "mark", "laid"] ["pieces", "mark"] (defScope s_chains_from) := ⟨rfl, rfl, rfl, by decide +kernel, rfl, by decide +kernel, by decide +kernel⟩

theorem from_bad {f : Floor} {m : Int} (h : Sr115.isMark m = false) : Sr115.perform f (.chainsFrom m) = (none, ⟨-22, []⟩) := by
  show (none, if Sr115.isMark m = false then _ else _) = _
  rw [if_pos h]
  rfl
theorem from_ok {f : Floor} {m : Nat} (h : Sr115.isMark (m : Int) = true) : Sr115.perform f (.chainsFrom (m : Int)) = (none, ⟨(((Sr115.completeChains f).filter (beginsB f m)).length : Int), []⟩) := by
  show (none, if Sr115.isMark (m : Int) = false then _ else _) = _
  rw [if_neg (by rw [h]; decide)]
  rfl
theorem ok_cfrom (F : Top K mg "chains_from" s_chains_from ["pieces", "mark"]) (T : Txt K mg) (D_is_mark : Def P w K mg base "is_mark" 1 ["number"] spIsMark) (D_complete_chains : Def P w K mg base "complete_chains" 3 ["pieces"] spComplete) (D_begins_with : Def P w K mg base "begins_with" 1 ["pieces", "laid", "mark"] (spBeg K)) :
    Def P w K mg base "chains_from" 4 ["pieces", "mark"] (spQ1 .chainsFrom) := by
  refine Def.of F sc_chains_from (fun vs H Q E h => ?_) (fun ff cdv A outer s H vs Q E hr h => ?_)
  · obtain ⟨x, rfl, _⟩ := h
    rfl
  · obtain ⟨⟨a, f, i⟩, rfl, ⟨hF, hk⟩, k⟩ := h
    replace hF : Fl H a f := hF
    replace hk : Fok f := hk
    replace k : RetL (iV (resL (Sr115.perform f (.chainsFrom i)).2)) H Q := k
    obtain ⟨_, g_OUT_OF_RANGE⟩ := T.c_OUT_OF_RANGE
    
    refine ⟨_, (pss_cons (ps_if (pt_not (pt_val (pe_callD D_is_mark (hr.mono (by decide)) rfl (pa_cons (pv 1) pa_nil)))) (pss_one (ps_ret (pe_lst (pa_cons (pe_glob (v := .int (-22)) rfl g_OUT_OF_RANGE ⟨_, rfl⟩) pa_nil)))) pss_nil)
      (pss_one (ps_ret (pe_lst (pa_cons (pe_callB call_len_seq (by rfl) T.len PySem.boot_len (pa_cons (pe_lc (own := [("laid", 2)]) (g := gName 2) rfl sc_chains_from.nd (pi_listK (K := K) (pe_callD D_complete_chains (hr.mono (by decide)) rfl (pa_cons (pv 0) pa_nil))) (blkOk_by (N := ["pieces", "mark", "laid"]) (sc := defScope s_chains_from) (by decide +kernel)) (fun _ _ _ _ _ => pg_name (i := 2) sc_chains_from.nd rfl (Or.inl rfl)) (fun _ _ _ _ _ => (pts_one (pt_val (pe_callD D_begins_with (hr.mono (by decide)) rfl (pa_cons (pv 0) (pa_cons (pv 2) (pa_cons (pv 1) pa_nil))))))) (fun _ _ _ _ _ => (pv 2))) pa_nil)) pa_nil))))), ?_⟩
    refine q_when (b := !(Sr115.isMark i)) (et_not (et_B (ev_SV mono_true i (ea_cons (ev_var rfl) ea_nil) trivial))) (fun c H1 e1 => ?_) (fun c H1 e1 => ?_)
    · rw [from_bad (nb c)] at k
      exact s_retL (el_lst (ea_cons ev_c ea_nil) (by show 1 ≤ 100000; decide)) fun q H3 hq e3 h3 => k q H3 (fresh_back e1 hq) (e1.trans e3) h3
    · have hm := nf c
      obtain ⟨i0, i6⟩ := (mark_iff i).mp hm
      obtain ⟨m, rfl⟩ : ∃ m : Nat, i = (m : Int) := ⟨i.toNat, by omega⟩
      rw [from_ok hm] at k
      refine s_retL (xs := iV [(((Sr115.completeChains f).filter (beginsB f m)).length : Int)]) (el_lst (ea_cons (ev_is (ev_lenB (eb_map_filter (Sr115.completeChains f) (beginsB f m) (fun r => beginsB f m (SrCommon.intsToNats r)) (fun r => by rw [toNats_nI]) (eb_lcB (o := lstO) ((Sr115.completeChains f).map nI) (fun r => beginsB f m (SrCommon.intsToNats r)) (eb_SB mono_F ⟨a, f⟩ (ea_cons (ev_var rfl) ea_nil) ⟨hF.mono e1, hk⟩) ?_ (fun _ => rfl) (fun q x H2 e2 hx hq => ?_) (fun q H2 => ev_var rfl)))) ?_) ea_nil) (by show 1 ≤ 100000; decide)) fun q H3 hq e3 h3 => k q H3 (fresh_back e1 hq) (e1.trans e3) h3
      · rw [List.length_map]
        exact Nat.le_trans (complete_len hk.1) (by decide)
      · obtain ⟨r, hr, rfl⟩ := List.mem_map.mp hx
        rw [toNats_nI]
        exact et_B (ev_SV mono_beg ⟨a, q, f, r, m⟩ (ea_cons (ev_var rfl) (ea_cons (ev_var rfl) (ea_cons (ev_var rfl) ea_nil))) ⟨hF.mono (e1.trans e2), sq_of hq, (complete_row hr).2⟩)
      · rw [List.length_map]
/-! ### evaluate_with_piece -/
abbrev s_evaluate_with_piece : Stmt := topS 51
theorem sc_evaluate_with_piece : FnScope ["pieces", "left", "right", "tried", "added"] ["pieces", "left", "right"] (defScope s_evaluate_with_piece) := ⟨rfl, rfl, rfl, by decide +kernel, rfl, by decide +kernel, by decide +kernel⟩

structure PI2 where
  a : Addr
  f : Floor
  l : Int
  r : Int
def preI2 (x : PI2) (H : Hp) : Prop := Fl H x.a x.f ∧ Fok x.f
theorem mono_I2 : Mono preI2 := fun x H H' e h => ⟨h.1.mono e, h.2⟩
def spEval : Sp := SL (fun x : PI2 => [.ref x.a, .int x.l, .int x.r]) preI2 (fun x => iV (ansP x.f (.evaluateWithPiece x.l x.r)))
/-- by what add_piece would do -/
theorem eval_eq (f : Floor) (l r : Int) : (resL (Sr115.perform f (.addPiece l r)).2).headD 0 < 0 ∧ resL (Sr115.perform f (.evaluateWithPiece l r)).2 = resL (Sr115.perform f (.addPiece l r)).2 ∨
    0 ≤ (resL (Sr115.perform f (.addPiece l r)).2).headD 0 ∧ resL (Sr115.perform f (.evaluateWithPiece l r)).2 = [(Sr115.minChains (newP f (.addPiece l r)) : Int), ((Sr115.completeChains (newP f (.addPiece l r))).length : Int)] := by
  unfold newP
  cases a : (Sr115.isMark l && Sr115.isMark r) with
  | false =>
    have e : Sr115.isMark l = false ∨ Sr115.isMark r = false := by
      cases b : Sr115.isMark l
      · exact .inl rfl
      · rw [b] at a
        exact .inr a
    rw [add_bad a]
    refine .inl ⟨by decide, ?_⟩
    show resL (if Sr115.isMark l = false ∨ Sr115.isMark r = false then _ else _) = _
    rw [if_pos e]
    rfl
  | true =>
    have e : ¬ (Sr115.isMark l = false ∨ Sr115.isMark r = false) := by
      rw [Bool.and_eq_true] at a
      rw [a.1, a.2]
      decide
    by_cases b : 7 ≤ f.length
    · rw [add_full a b]
      refine .inl ⟨by decide, ?_⟩
      show resL (if Sr115.isMark l = false ∨ Sr115.isMark r = false then _ else if Sr115.maxPieces ≤ f.length then _ else _) = _
      rw [if_neg e, if_pos (show Sr115.maxPieces ≤ f.length from b)]
      rfl
    · rw [add_ok a b]
      refine .inr ⟨?_, ?_⟩
      · show (0 : Int) ≤ (f.length : Int)
        omega
      · show resL (if Sr115.isMark l = false ∨ Sr115.isMark r = false then _ else if Sr115.maxPieces ≤ f.length then _ else _) = _
        rw [if_neg e, if_neg (show ¬ Sr115.maxPieces ≤ f.length from b)]
        rfl
theorem q_asgAdd {σ : L2.St} {H : Hp} {D : L2.Ends} {tz : TS} {ta : TA} {E : XK} {i : Nat} {a : Addr} {f : Floor} {l r : Int} (ha : EvA ta σ H [.ref a, .int l, .int r]) (hF : Fl H a f) (hk : Fok f)
    (k : ∀ p H1, H p = none → ExB a H H1 → H1 p = some (.lst (iV (ansP f (.addPiece l r)))) → Fl H1 a (newP f (.addPiece l r)) → tz D (σ.set i (some (.ref p))) H1) : tSeq (tAsg (tCall spAdd [] E ta) (gName i)) tz D σ H := ha H (Ex.refl H) _ fun H2 e2 =>
  ⟨a, f, l, r, rfl, hF.mono e2, hk, fun p H3 hp b3 h3 hN => k p H3 (fresh_back e2 hp) ((ExB.of e2).trans b3) h3 hN⟩
theorem ok_eval (F : Top K mg "evaluate_with_piece" s_evaluate_with_piece ["pieces", "left", "right"]) (T : Txt K mg) (D_add_piece : Def P w K mg base "add_piece" 2 ["pieces", "left", "right"] spAdd) (D_min_chains : Def P w K mg base "min_chains" 5 ["pieces"] (spQ0 .minChains)) (D_chain_count : Def P w K mg base "chain_count" 4 ["pieces"] (spQ0 .chainCount)) :
    Def P w K mg base "evaluate_with_piece" 6 ["pieces", "left", "right"] spEval := by
  refine Def.of F sc_evaluate_with_piece (fun vs H Q E h => ?_) (fun ff cdv A outer s H vs Q E hr h => ?_)
  · obtain ⟨x, rfl, _⟩ := h
    rfl
  · obtain ⟨⟨a, f, l, r⟩, rfl, ⟨hF, hk⟩, k⟩ := h
    replace hF : Fl H a f := hF
    replace hk : Fok f := hk
    replace k : RetL (iV (resL (Sr115.perform f (.evaluateWithPiece l r)).2)) H Q := k
    refine ⟨_, (pss_cons (ps_set (i := 3) sc_evaluate_with_piece.nd rfl (Or.inl rfl) (pe_callTy call_list_of (by rfl) T.list (by decide +kernel) (pa_cons (pv 0) pa_nil)))
      (pss_cons (ps_set (i := 4) sc_evaluate_with_piece.nd rfl (Or.inl rfl) (pe_callD D_add_piece (hr.mono (by decide)) rfl (pa_cons (pv 3) (pa_cons (pv 1) (pa_cons (pv 2) pa_nil)))))
      (pss_cons (ps_if (pt_cmpR op_lt (pe_ix (ix_listK (K := K)) (pv 4) pe_int (fun _ _ => rfl)) pe_int (nomark _)) (pss_one (ps_ret (pv 4))) pss_nil)
      (pss_one (ps_ret (pe_op op_cat (pe_callD D_min_chains (hr.mono (by decide)) rfl (pa_cons (pv 3) pa_nil)) (pe_callD D_chain_count (hr.mono (by decide)) rfl (pa_cons (pv 3) pa_nil)))))))), ?_⟩
    obtain ⟨zs, g1, g2, g3⟩ := hF
    refine q_asgL (el_list (ev_var rfl) (sq_of g1)) fun t H1 ht e1 h1 => ?_
    have hT : Fl H1 t f := ⟨zs, h1, g2, fun z hz => e1 _ _ (g3 z hz)⟩
    refine q_asgAdd (ea_cons (ev_var rfl) (ea_cons (ev_var rfl) (ea_cons (ev_var rfl) ea_nil))) hT hk fun p H3 hp b3 h3 hN => ?_
    have e03 : Ex H H3 := ExB.ex e1 b3 ht
    have hpH : H p = none := fresh_back e1 hp
    have hd : (iV (ansP f (.addPiece l r)))[0]? = some (.int ((ansP f (.addPiece l r)).headD 0)) := rfl
    refine q_when (b := decide ((ansP f (.addPiece l r)).headD 0 < 0)) (et_test (ev_op (ev_op (ev_var rfl) ev_c (rv_ixL (sq_of h3) (atI_nat (j := 0) hd))) ev_c rv_I0)) (fun c H4 e4 => ?_) (fun c H4 e4 => ?_)
    · have e : resL (Sr115.perform f (.evaluateWithPiece l r)).2 = ansP f (.addPiece l r) := by
        rcases eval_eq f l r with q | q
        · exact q.2
        · have := of_decide_eq_true c
          unfold ansP at this
          omega
      rw [e] at k
      exact s_ret (ev_var rfl) fun H5 e5 => k p H5 hpH ((e03.trans e4).trans e5) (e5 _ _ (e4 _ _ h3))
    · have e : resL (Sr115.perform f (.evaluateWithPiece l r)).2 = [(Sr115.minChains (newP f (.addPiece l r)) : Int), ((Sr115.completeChains (newP f (.addPiece l r))).length : Int)] := by
        rcases eval_eq f l r with q | q
        · have := of_decide_eq_false c
          unfold ansP at this
          omega
        · exact q.2
      rw [e] at k
      have hk2 : Fok (newP f (.addPiece l r)) := new_ok hk _
      refine s_retL (el_cat (xs := iV [(Sr115.minChains (newP f (.addPiece l r)) : Int)]) (ys := iV [((Sr115.completeChains (newP f (.addPiece l r))).length : Int)]) (es_L (el_SL mono_F ⟨t, newP f (.addPiece l r)⟩ (ea_cons (ev_var rfl) ea_nil) ⟨hN.mono e4, hk2⟩)) (es_L (el_SL mono_F ⟨t, newP f (.addPiece l r)⟩ (ea_cons (ev_var rfl) ea_nil) ⟨hN.mono e4, hk2⟩)) (by show 2 ≤ 10000000; decide)) fun q H5 hq e5 h5 => k q H5 (fresh_back (e03.trans e4) hq) ((e03.trans e4).trans e5) h5
/-! ### describe -/
abbrev s_describe : Stmt := topS 52
theorem sc_describe : FnScope ["pieces", "told", "left", "right"] ["pieces"] (defScope s_describe) := ⟨rfl, rfl, rfl, by decide +kernel, rfl, by decide +kernel, by decide +kernel⟩

def pcs (f : Floor) : List Int := f.flatMap fun p => [(p.left : Int), (p.right : Int)]
theorem pcs_app (f : Floor) (p : Piece) : pcs (f ++ [p]) = pcs f ++ [(p.left : Int), (p.right : Int)] := by
  unfold pcs
  rw [List.flatMap_append]
  rfl
theorem pcs_len (f : Floor) : (pcs f).length ≤ f.length * 2 := flatMap_len _ 2 f fun p _ => Nat.le_refl _
theorem ok_desc (F : Top K mg "describe" s_describe ["pieces"]) (T : Txt K mg) : Def P w K mg base "describe" 1 ["pieces"] (spQ0 .describe) := by
  refine Def.of F sc_describe (fun vs H Q E h => ?_) (fun ff cdv A outer s H vs Q E hr h => ?_)
  · obtain ⟨x, rfl, _⟩ := h
    rfl
  · obtain ⟨⟨a, f⟩, rfl, ⟨hF, hk⟩, k⟩ := h
    replace hF : Fl H a f := hF
    replace hk : Fok f := hk
    replace k : RetL (iV ((f.length : Int) :: pcs f)) H Q := k
    refine ⟨_, (pss_cons (ps_set (i := 1) sc_describe.nd rfl (Or.inl rfl) (pe_lst (pa_cons (pe_callB call_len_seq (by rfl) T.len PySem.boot_len (pa_cons (pv 0) pa_nil)) pa_nil)))
      (pss_cons (ps_for PassesOwn.never rfl (pi_listK (K := K) (pv 0)) (pg_tup rfl (pgs_cons (pg_name (i := 2) sc_describe.nd rfl (Or.inl rfl)) (pgs_cons (pg_name (i := 3) sc_describe.nd rfl (Or.inl rfl)) pgs_nil))) (pss_cons (ps_expr (pe_bm PySem.F.plainAttrs_list PySem.F.slot_list_append PySem.F.type_list_append mt_append (pv 1) (pa_cons (pv 2) pa_nil)))
      (pss_one (ps_expr (pe_bm PySem.F.plainAttrs_list PySem.F.slot_list_append PySem.F.type_list_append mt_append (pv 1) (pa_cons (pv 3) pa_nil))))))
      (pss_one (ps_ret (pv 1))))), ?_⟩
    have h7 := hk.1
    refine q_asgL (xs := iV [(f.length : Int)]) (el_lst (ea_cons (ev_lenO (ev_var rfl) hF) ea_nil) (by show 1 ≤ 100000; decide)) fun p H1 hp e1 h1 => ?_
    refine q_forF (H0 := H) (ev_var rfl) hF (fun i σ' H' => ∃ v2 v3, σ' = [some (.ref a), some (.ref p), v2, v3] ∧ Ex H H' ∧ H' p = some (.lst (iV ((f.length : Int) :: pcs (f.take i))))) (fun H2 e2 => ⟨none, none, rfl, e1.trans e2, e2 _ _ h1⟩) (fun i σ' H' q => ?_) e1 (fun i pc σ' H' hpc q => ?_) (fun σ' H' q => ?_)
    · obtain ⟨_, _, _, ee, _⟩ := q
      exact ee
    · obtain ⟨v2, v3, rfl, ee, hx⟩ := q
      have hlen : (iV ((f.length : Int) :: pcs (f.take i))).length ≤ 15 := by
        have q1 := pcs_len (f.take i)
        rw [List.length_take] at q1
        rw [iV_len, List.length_cons]
        omega
      refine q_app hx (ev_var rfl) (ev_var rfl) (by omega) fun H2 e2 => ?_
      refine s_app upd_same (ev_var rfl) (ev_var rfl) (by rw [List.length_append]; show _ + 1 < 100000; omega) fun H3 e3 => ?_
      refine ⟨_, _, rfl, Ex.mut ((Ex.mut (ee.trans e2) hp).trans e3) hp, ?_⟩
      rw [upd_same, take_get hpc, pcs_app]
      show some (HO.lst (iV ((f.length : Int) :: pcs (f.take i)) ++ [V.int (pc.left : Int)] ++ [V.int (pc.right : Int)])) = some (HO.lst (iV ((f.length : Int) :: pcs (f.take i) ++ [(pc.left : Int), (pc.right : Int)])))
      rw [iV_app, List.append_assoc]
      rfl
    · obtain ⟨v2, v3, rfl, ee, hx⟩ := q
      rw [List.take_length] at hx
      exact s_ret (ev_var rfl) fun H3 e3 => k p H3 hp (ee.trans e3) (e3 _ _ hx)
end
end BB
namespace BB
open PySem PySem.Spec PyProof.Rows L2 Evl
open Sr115 (Floor pieceAt Piece)
section
variable {P : Program} {w : World} {K : PySem.W.Frag} {mg : Str → Option Value} {base : Heap}
/-- what a def hands back is handed on -/
theorem s_retRaw {te : TE} {σ : L2.St} {H : Hp} {D : L2.Ends} (h : te σ H D.rt) : tRet te D σ H := h
theorem et_num {σ : L2.St} {H : Hp} {ta : TE} {i j : Int} (h : Ev ta σ H (.int i)) : EvT (tTest (tOp rEq ta (tC (.int j)))) σ H (i == j) := et_test (ev_is (ev_op h ev_c (rv_eq rfl)) (congrArg V.bl dec_int))
/-! ### answer_to_change -/
abbrev s_answer_to_change : Stmt := topS 59
theorem sc_answer_to_change : FnScope ["pieces", "number", "given"] ["pieces", "number", "given"] (defScope s_answer_to_change) := ⟨rfl, rfl, rfl, by decide +kernel, rfl, by decide +kernel, by decide +kernel⟩

def spOn (K : PySem.W.Frag) (ok : Cl115 → Prop) : Sp := fun vs H Q _ => ∃ (a g : Addr) (f : Floor) (c : Cl115), vs = [.ref a, .int (numOf c), .ref g] ∧ ok c ∧ SqL K H g (iV (argOf c)) ∧ Fl H a f ∧ Fok f ∧ RetM a (newP f c) (iV (ansP f c)) H Q
def okChange : Cl115 → Prop
  | .addPiece _ _ => True
  | .removePiece _ => True
  | .setPiece _ _ _ => True
  | _ => False
theorem RetM.pre {a : Addr} {f : Floor} {xs : List V} {H H1 : Hp} {Q : VK} (k : RetM a f xs H Q) (e : Ex H H1) : RetM a f xs H1 Q := fun p H2 hp b h2 hF => k p H2 (fresh_back e hp) ((ExB.of e).trans b) h2 hF
theorem ok_change (F : Top K mg "answer_to_change" s_answer_to_change ["pieces", "number", "given"]) (T : Txt K mg) (D_add_piece : Def P w K mg base "add_piece" 2 ["pieces", "left", "right"] spAdd) (D_remove_piece : Def P w K mg base "remove_piece" 2 ["pieces", "i"] spRem) (D_set_piece : Def P w K mg base "set_piece" 2 ["pieces", "i", "left", "right"] spSet) :
    Def P w K mg base "answer_to_change" 3 ["pieces", "number", "given"] (spOn K okChange) := by
  refine Def.of F sc_answer_to_change (fun vs H Q E h => ?_) (fun ff cdv A outer s H vs Q E hr h => ?_)
  · obtain ⟨a, g, f, c, rfl, _⟩ := h
    rfl
  · obtain ⟨a, g, f, c, rfl, ho, hg, hF, hk, k⟩ := h
    refine ⟨_, (pss_cons (ps_if (pt_cmpR op_eq (pv 1) pe_int (nomark _)) (pss_one (ps_ret (pe_callD D_add_piece (hr.mono (by decide)) rfl (pa_cons (pv 0) (pa_cons (pe_ix (ix_listK (K := K)) (pv 2) pe_int (fun _ _ => rfl)) (pa_cons (pe_ix (ix_listK (K := K)) (pv 2) pe_int (fun _ _ => rfl)) pa_nil)))))) pss_nil)
      (pss_cons (ps_if (pt_cmpR op_eq (pv 1) pe_int (nomark _)) (pss_one (ps_ret (pe_callD D_remove_piece (hr.mono (by decide)) rfl (pa_cons (pv 0) (pa_cons (pe_ix (ix_listK (K := K)) (pv 2) pe_int (fun _ _ => rfl)) pa_nil))))) pss_nil)
      (pss_one (ps_ret (pe_callD D_set_piece (hr.mono (by decide)) rfl (pa_cons (pv 0) (pa_cons (pe_ix (ix_listK (K := K)) (pv 2) pe_int (fun _ _ => rfl)) (pa_cons (pe_ix (ix_listK (K := K)) (pv 2) pe_int (fun _ _ => rfl)) (pa_cons (pe_ix (ix_listK (K := K)) (pv 2) pe_int (fun _ _ => rfl)) pa_nil))))))))), ?_⟩
    refine q_when (et_num (ev_var rfl)) (fun d H1 e1 => ?_) (fun d H1 e1 => ?_)
    · cases c with
      | addPiece l r =>
        have hg := ex_l e1 hg
        refine s_retRaw ((ea_cons (ev_var rfl) (ea_cons (ev_op (ev_var rfl) ev_c (rv_ixL hg (atI_nat (j := 0) rfl))) (ea_cons (ev_op (ev_var rfl) ev_c (rv_ixL hg (atI_nat (j := 1) rfl))) ea_nil)) : EvA _ _ H1 [.ref a, .int l, .int r]) H1 (Ex.refl H1) _ fun H2 e2 => ?_)
        exact ⟨a, f, l, r, rfl, hF.mono (e1.trans e2), hk, k.pre (e1.trans e2)⟩
      | removePiece i => cases d
      | setPiece i l r => cases d
      | _ => exact ho.elim
    · refine q_when (et_num (ev_var rfl)) (fun d2 H2 e2 => ?_) (fun d2 H2 e2 => ?_)
      · cases c with
        | addPiece l r => cases d2
        | removePiece i =>
          have hg := ex_l (e1.trans e2) hg
          refine s_retRaw ((ea_cons (ev_var rfl) (ea_cons (ev_op (ev_var rfl) ev_c (rv_ixL hg (atI_nat (j := 0) rfl))) ea_nil) : EvA _ _ H2 [.ref a, .int i]) H2 (Ex.refl H2) _ fun H3 e3 => ?_)
          exact ⟨a, f, i, rfl, hF.mono ((e1.trans e2).trans e3), hk, k.pre ((e1.trans e2).trans e3)⟩
        | setPiece i l r => cases d2
        | _ => exact ho.elim
      · cases c with
        | addPiece l r => cases d
        | removePiece i => cases d2
        | setPiece i l r =>
          have hg := ex_l (e1.trans e2) hg
          refine s_retRaw ((ea_cons (ev_var rfl) (ea_cons (ev_op (ev_var rfl) ev_c (rv_ixL hg (atI_nat (j := 0) rfl))) (ea_cons (ev_op (ev_var rfl) ev_c (rv_ixL hg (atI_nat (j := 1) rfl))) (ea_cons (ev_op (ev_var rfl) ev_c (rv_ixL hg (atI_nat (j := 2) rfl))) ea_nil))) : EvA _ _ H2 [.ref a, .int i, .int l, .int r]) H2 (Ex.refl H2) _ fun H3 e3 => ?_)
          exact ⟨a, f, i, l, r, rfl, hF.mono ((e1.trans e2).trans e3), hk, k.pre ((e1.trans e2).trans e3)⟩
        | _ => exact ho.elim
/-! ### answer_to_plain_query -/
abbrev s_answer_to_plain_query : Stmt := topS 60
theorem sc_answer_to_plain_query : FnScope ["pieces", "number"] ["pieces", "number"] (defScope s_answer_to_plain_query) := ⟨rfl, rfl, rfl, by decide +kernel, rfl, by decide +kernel, by decide +kernel⟩

structure Pq where
  a : Addr
  f : Floor
  c : Cl115
def okPlain : Cl115 → Prop
  | .chainCount => True
  | .singleChainPossible => True
  | .minChains => True
  | .excesses => True
  | .components => True
  | .circuitCount => True
  | .describe => True
  | _ => False
def prePq (x : Pq) (H : Hp) : Prop := Fl H x.a x.f ∧ Fok x.f ∧ okPlain x.c
theorem mono_pq : Mono prePq := fun x H H' e h => ⟨h.1.mono e, h.2⟩
def spPlain : Sp := SL (fun x : Pq => [.ref x.a, .int (numOf x.c)]) prePq (fun x => iV (ansP x.f x.c))
theorem retLp {xs : List V} {H H1 : Hp} {Q : VK} (k : RetL xs H Q) (e : Ex H H1) : RetL xs H1 Q := fun p H2 hp e2 h2 => k p H2 (fresh_back e hp) (e.trans e2) h2
theorem ok_plain (F : Top K mg "answer_to_plain_query" s_answer_to_plain_query ["pieces", "number"]) (T : Txt K mg) (D_chain_count : Def P w K mg base "chain_count" 4 ["pieces"] (spQ0 .chainCount)) (D_single_chain_possible : Def P w K mg base "single_chain_possible" 5 ["pieces"] (spQ0 .singleChainPossible))
    (D_min_chains : Def P w K mg base "min_chains" 5 ["pieces"] (spQ0 .minChains)) (D_excesses : Def P w K mg base "excesses" 2 ["pieces"] (spQ0 .excesses)) (D_components : Def P w K mg base "components" 4 ["pieces"] (spQ0 .components)) (D_circuit_count : Def P w K mg base "circuit_count" 6 ["pieces"] (spQ0 .circuitCount)) (D_describe : Def P w K mg base "describe" 1 ["pieces"] (spQ0 .describe)) :
    Def P w K mg base "answer_to_plain_query" 7 ["pieces", "number"] spPlain := by
  refine Def.of F sc_answer_to_plain_query (fun vs H Q E h => ?_) (fun ff cdv A outer s H vs Q E hr h => ?_)
  · obtain ⟨x, rfl, _⟩ := h
    rfl
  · obtain ⟨⟨a, f, c⟩, rfl, ⟨hF, hk, ho⟩, k⟩ := h
    replace hF : Fl H a f := hF
    replace hk : Fok f := hk
    replace ho : okPlain c := ho
    replace k : RetL (iV (ansP f c)) H Q := k
    refine ⟨_, (pss_cons (ps_if (pt_cmpR op_eq (pv 1) pe_int (nomark _)) (pss_one (ps_ret (pe_callD D_chain_count (hr.mono (by decide)) rfl (pa_cons (pv 0) pa_nil)))) pss_nil)
      (pss_cons (ps_if (pt_cmpR op_eq (pv 1) pe_int (nomark _)) (pss_one (ps_ret (pe_callD D_single_chain_possible (hr.mono (by decide)) rfl (pa_cons (pv 0) pa_nil)))) pss_nil)
      (pss_cons (ps_if (pt_cmpR op_eq (pv 1) pe_int (nomark _)) (pss_one (ps_ret (pe_callD D_min_chains (hr.mono (by decide)) rfl (pa_cons (pv 0) pa_nil)))) pss_nil)
      (pss_cons (ps_if (pt_cmpR op_eq (pv 1) pe_int (nomark _)) (pss_one (ps_ret (pe_callD D_excesses (hr.mono (by decide)) rfl (pa_cons (pv 0) pa_nil)))) pss_nil)
      (pss_cons (ps_if (pt_cmpR op_eq (pv 1) pe_int (nomark _)) (pss_one (ps_ret (pe_callD D_components (hr.mono (by decide)) rfl (pa_cons (pv 0) pa_nil)))) pss_nil)
      (pss_cons (ps_if (pt_cmpR op_eq (pv 1) pe_int (nomark _)) (pss_one (ps_ret (pe_callD D_circuit_count (hr.mono (by decide)) rfl (pa_cons (pv 0) pa_nil)))) pss_nil)
      (pss_one (ps_ret (pe_callD D_describe (hr.mono (by decide)) rfl (pa_cons (pv 0) pa_nil)))))))))), ?_⟩
    refine q_when (et_num (ev_var rfl)) (fun d1 H1 e1 => ?_) (fun d1 H1 e1 => ?_)
    · cases c with
      | chainCount => exact s_retL (el_SL mono_F ⟨a, f⟩ (ea_cons (ev_var rfl) ea_nil) ⟨hF.mono e1, hk⟩) (retLp k e1)
      | _ => first | exact ho.elim | (cases d1; done)
    refine q_when (et_num (ev_var rfl)) (fun d2 H2 e2 => ?_) (fun d2 H2 e2 => ?_)
    · cases c with
      | singleChainPossible => exact s_retL (el_SL mono_F ⟨a, f⟩ (ea_cons (ev_var rfl) ea_nil) ⟨hF.mono (e1.trans e2), hk⟩) (retLp k (e1.trans e2))
      | _ => first | exact ho.elim | (cases d2; done)
    have e12 := e1.trans e2
    refine q_when (et_num (ev_var rfl)) (fun d3 H3 e3 => ?_) (fun d3 H3 e3 => ?_)
    · cases c with
      | minChains => exact s_retL (el_SL mono_F ⟨a, f⟩ (ea_cons (ev_var rfl) ea_nil) ⟨hF.mono (e12.trans e3), hk⟩) (retLp k (e12.trans e3))
      | _ => first | exact ho.elim | (cases d3; done)
    have e13 := e12.trans e3
    refine q_when (et_num (ev_var rfl)) (fun d4 H4 e4 => ?_) (fun d4 H4 e4 => ?_)
    · cases c with
      | excesses => exact s_retL (el_SL mono_F ⟨a, f⟩ (ea_cons (ev_var rfl) ea_nil) ⟨hF.mono (e13.trans e4), hk⟩) (retLp k (e13.trans e4))
      | _ => first | exact ho.elim | (cases d4; done)
    have e14 := e13.trans e4
    refine q_when (et_num (ev_var rfl)) (fun d5 H5 e5 => ?_) (fun d5 H5 e5 => ?_)
    · cases c with
      | components => exact s_retL (el_SL mono_F ⟨a, f⟩ (ea_cons (ev_var rfl) ea_nil) ⟨hF.mono (e14.trans e5), hk⟩) (retLp k (e14.trans e5))
      | _ => first | exact ho.elim | (cases d5; done)
    have e15 := e14.trans e5
    refine q_when (et_num (ev_var rfl)) (fun d6 H6 e6 => ?_) (fun d6 H6 e6 => ?_)
    · cases c with
      | circuitCount => exact s_retL (el_SL mono_F ⟨a, f⟩ (ea_cons (ev_var rfl) ea_nil) ⟨hF.mono (e15.trans e6), hk⟩) (retLp k (e15.trans e6))
      | _ => first | exact ho.elim | (cases d6; done)
    have e16 := e15.trans e6
    cases c with
    | describe => exact s_retL (el_SL mono_F ⟨a, f⟩ (ea_cons (ev_var rfl) ea_nil) ⟨hF.mono e16, hk⟩) (retLp k e16)
    | _ => first | exact ho.elim | (cases d1; done) | (cases d2; done) | (cases d3; done) | (cases d4; done) | (cases d5; done) | (cases d6; done)
/-! ### answer_to_query -/
abbrev s_answer_to_query : Stmt := topS 61
theorem sc_answer_to_query : FnScope ["pieces", "number", "given"] ["pieces", "number", "given"] (defScope s_answer_to_query) := ⟨rfl, rfl, rfl, by decide +kernel, rfl, by decide +kernel, by decide +kernel⟩

structure Gq where
  a : Addr
  g : Addr
  f : Floor
  c : Cl115
def okQuery : Cl115 → Prop
  | .chain _ => True
  | .circuit _ => True
  | .treeCount _ => True
  | .checkChains r => r.length ≤ 70
  | .chainsFrom _ => True
  | .evaluateWithPiece _ _ => True
  | _ => False
def preGq (x : Gq) (H : Hp) : Prop := Fl H x.a x.f ∧ Fok x.f ∧ okQuery x.c ∧ SqL K H x.g (iV (argOf x.c))
theorem mono_gq : Mono (preGq (K := K)) := fun x H H' e h => ⟨h.1.mono e, h.2.1, h.2.2.1, ex_l e h.2.2.2⟩
def spQuery (K : PySem.W.Frag) : Sp := SL (fun x : Gq => [.ref x.a, .int (numOf x.c), .ref x.g]) (preGq (K := K)) (fun x => iV (ansP x.f x.c))
/-- a call one of whose arguments is a new list -/
theorem el_SLP {α : Type} {args : α → List V} {pre : α → Hp → Prop} {out : α → List V} {σ : L2.St} {H : Hp} {ta : TA} {E : XK} {xs : List V} {Pq : List V → Hp → Prop} (ha : EvAP ta σ H Pq) (h : ∀ vs H2, Ex H H2 → Pq vs H2 → ∃ x, vs = args x ∧ pre x H2 ∧ out x = xs) : EvL (tCall (SL args pre out) [] E ta) σ H xs := fun H1 e Q q =>
  ha H1 e _ fun vs H2 e2 hp => by
    obtain ⟨x, h1, h2, h3⟩ := h vs H2 (e.trans e2) hp
    show SL args pre out (vs ++ []) H2 Q E
    rw [List.append_nil]
    exact ⟨x, h1, h2, fun p H3 hp e3 g3 => q p H3 (fresh_back e2 hp) (e2.trans e3) (h3 ▸ g3)⟩
theorem ok_query (F : Top K mg "answer_to_query" s_answer_to_query ["pieces", "number", "given"]) (T : Txt K mg) (D_chain : Def P w K mg base "chain" 4 ["pieces", "k"] (spQ1 .chain)) (D_circuit : Def P w K mg base "circuit" 5 ["pieces", "k"] (spQ1 .circuit)) (D_tree_count : Def P w K mg base "tree_count" 5 ["pieces", "mark"] (spQ1 .treeCount))
    (D_check_chains : Def P w K mg base "check_chains" 4 ["pieces", "numbers"] (spCheck K)) (D_chains_from : Def P w K mg base "chains_from" 4 ["pieces", "mark"] (spQ1 .chainsFrom)) (D_evaluate_with_piece : Def P w K mg base "evaluate_with_piece" 6 ["pieces", "left", "right"] spEval) :
    Def P w K mg base "answer_to_query" 7 ["pieces", "number", "given"] (spQuery K) := by
  refine Def.of F sc_answer_to_query (fun vs H Q E h => ?_) (fun ff cdv A outer s H vs Q E hr h => ?_)
  · obtain ⟨x, rfl, _⟩ := h
    rfl
  · obtain ⟨⟨a, g, f, c⟩, rfl, ⟨hF, hk, ho, hg⟩, k⟩ := h
    replace hF : Fl H a f := hF
    replace hk : Fok f := hk
    replace ho : okQuery c := ho
    replace hg : SqL K H g (iV (argOf c)) := hg
    replace k : RetL (iV (ansP f c)) H Q := k
    obtain ⟨_, g_CHECK_CHAINS⟩ := T.c_CHECK_CHAINS
    
    refine ⟨_, (pss_cons (ps_if (pt_cmpR op_eq (pv 1) pe_int (nomark _)) (pss_one (ps_ret (pe_callD D_chain (hr.mono (by decide)) rfl (pa_cons (pv 0) (pa_cons (pe_ix (ix_listK (K := K)) (pv 2) pe_int (fun _ _ => rfl)) pa_nil))))) pss_nil)
      (pss_cons (ps_if (pt_cmpR op_eq (pv 1) pe_int (nomark _)) (pss_one (ps_ret (pe_callD D_circuit (hr.mono (by decide)) rfl (pa_cons (pv 0) (pa_cons (pe_ix (ix_listK (K := K)) (pv 2) pe_int (fun _ _ => rfl)) pa_nil))))) pss_nil)
      (pss_cons (ps_if (pt_cmpR op_eq (pv 1) pe_int (nomark _)) (pss_one (ps_ret (pe_callD D_tree_count (hr.mono (by decide)) rfl (pa_cons (pv 0) (pa_cons (pe_ix (ix_listK (K := K)) (pv 2) pe_int (fun _ _ => rfl)) pa_nil))))) pss_nil)
      (pss_cons (ps_if (pt_cmpR op_eq (pv 1) (pe_glob (v := .int (13)) rfl g_CHECK_CHAINS ⟨_, rfl⟩) (nomark _)) (pss_one (ps_ret (pe_callD D_check_chains (hr.mono (by decide)) rfl (pa_cons (pv 0) (pa_cons (pe_slice (sl_listK (K := K)) (pv 2) (po_some pe_int) po_none) pa_nil))))) pss_nil)
      (pss_cons (ps_if (pt_cmpR op_eq (pv 1) pe_int (nomark _)) (pss_one (ps_ret (pe_callD D_chains_from (hr.mono (by decide)) rfl (pa_cons (pv 0) (pa_cons (pe_ix (ix_listK (K := K)) (pv 2) pe_int (fun _ _ => rfl)) pa_nil))))) pss_nil)
      (pss_one (ps_ret (pe_callD D_evaluate_with_piece (hr.mono (by decide)) rfl (pa_cons (pv 0) (pa_cons (pe_ix (ix_listK (K := K)) (pv 2) pe_int (fun _ _ => rfl)) (pa_cons (pe_ix (ix_listK (K := K)) (pv 2) pe_int (fun _ _ => rfl)) pa_nil))))))))))), ?_⟩
    refine q_when (et_num (ev_var rfl)) (fun d1 H1 e1 => ?_) (fun d1 H1 e1 => ?_)
    · cases c with
      | chain i => exact s_retL (el_SL mono_I ⟨a, f, i⟩ (ea_cons (ev_var rfl) (ea_cons (ev_op (ev_var rfl) ev_c (rv_ixL (ex_l e1 hg) (atI_nat (j := 0) rfl))) ea_nil)) ⟨hF.mono e1, hk⟩) (retLp k e1)
      | _ => first | exact ho.elim | (cases d1; done)
    refine q_when (et_num (ev_var rfl)) (fun d2 H2 e2 => ?_) (fun d2 H2 e2 => ?_)
    · cases c with
      | circuit i => exact s_retL (el_SL mono_I ⟨a, f, i⟩ (ea_cons (ev_var rfl) (ea_cons (ev_op (ev_var rfl) ev_c (rv_ixL (ex_l (e1.trans e2) hg) (atI_nat (j := 0) rfl))) ea_nil)) ⟨hF.mono (e1.trans e2), hk⟩) (retLp k (e1.trans e2))
      | _ => first | exact ho.elim | (cases d2; done)
    have e12 := e1.trans e2
    refine q_when (et_num (ev_var rfl)) (fun d3 H3 e3 => ?_) (fun d3 H3 e3 => ?_)
    · cases c with
      | treeCount i => exact s_retL (el_SL mono_I ⟨a, f, i⟩ (ea_cons (ev_var rfl) (ea_cons (ev_op (ev_var rfl) ev_c (rv_ixL (ex_l (e12.trans e3) hg) (atI_nat (j := 0) rfl))) ea_nil)) ⟨hF.mono (e12.trans e3), hk⟩) (retLp k (e12.trans e3))
      | _ => first | exact ho.elim | (cases d3; done)
    have e13 := e12.trans e3
    refine q_when (et_num (ev_var rfl)) (fun d4 H4 e4 => ?_) (fun d4 H4 e4 => ?_)
    · cases c with
      | checkChains r =>
        have ho : r.length ≤ 70 := ho
        refine s_retL (el_SLP (eap_cons (ev_var rfl) (eap_consL (el_sl (ev_var rfl) (eo_some ev_c) eo_none (ex_l (e13.trans e4) hg)) eap_nil)) fun vs H5 e5 hp => ?_) (retLp k (e13.trans e4))
        obtain ⟨_, rfl, p, _, rfl, hp1, rfl⟩ := hp
        refine ⟨⟨a, p, f, r⟩, rfl, ⟨(hF.mono (e13.trans e4)).mono e5, hk, ?_, ho⟩, rfl⟩
        have e1' : cutV (iV (argOf (.checkChains r))) (some 1) none = iV r := (cut_drop _ 1).trans rfl
        rw [e1'] at hp1
        exact sq_of hp1
      | _ => first | exact ho.elim | (cases d4; done)
    have e14 := e13.trans e4
    refine q_when (et_num (ev_var rfl)) (fun d5 H5 e5 => ?_) (fun d5 H5 e5 => ?_)
    · cases c with
      | chainsFrom i => exact s_retL (el_SL mono_I ⟨a, f, i⟩ (ea_cons (ev_var rfl) (ea_cons (ev_op (ev_var rfl) ev_c (rv_ixL (ex_l (e14.trans e5) hg) (atI_nat (j := 0) rfl))) ea_nil)) ⟨hF.mono (e14.trans e5), hk⟩) (retLp k (e14.trans e5))
      | _ => first | exact ho.elim | (cases d5; done)
    have e15 := e14.trans e5
    cases c with
    | evaluateWithPiece l r => exact s_retL (el_SL mono_I2 ⟨a, f, l, r⟩ (ea_cons (ev_var rfl) (ea_cons (ev_op (ev_var rfl) ev_c (rv_ixL (ex_l e15 hg) (atI_nat (j := 0) rfl))) (ea_cons (ev_op (ev_var rfl) ev_c (rv_ixL (ex_l e15 hg) (atI_nat (j := 1) rfl))) ea_nil))) ⟨hF.mono e15, hk⟩) (retLp k e15)
    | _ => first | exact ho.elim | (cases d1; done) | (cases d2; done) | (cases d3; done) | (cases d4; done) | (cases d5; done)
/-! ### answer_on_instance -/
abbrev s_answer_on_instance : Stmt := topS 62
theorem sc_answer_on_instance : FnScope ["pieces", "number", "given"] ["pieces", "number", "given"] (defScope s_answer_on_instance) := ⟨rfl, rfl, rfl, by decide +kernel, rfl, by decide +kernel, by decide +kernel⟩

def okOn (c : Cl115) : Prop := numOf c ≠ 0 ∧ rowOk c
theorem on_cases {c : Cl115} (h : okOn c) : (okChange c ∧ decide (numOf c ≤ 3) = true) ∨ (okPlain c ∧ decide (numOf c ≤ 3) = false ∧ argOf c = []) ∨ (okQuery c ∧ decide (numOf c ≤ 3) = false ∧ argOf c ≠ []) := by
  obtain ⟨h1, h2⟩ := h
  cases c with
  | create => exact absurd rfl h1
  | addPiece l r => exact .inl ⟨trivial, rfl⟩
  | removePiece i => exact .inl ⟨trivial, rfl⟩
  | setPiece i l r => exact .inl ⟨trivial, rfl⟩
  | chain i => exact .inr (.inr ⟨trivial, rfl, by intro z; cases z⟩)
  | circuit i => exact .inr (.inr ⟨trivial, rfl, by intro z; cases z⟩)
  | treeCount i => exact .inr (.inr ⟨trivial, rfl, by intro z; cases z⟩)
  | checkChains r => exact .inr (.inr ⟨h2, rfl, by intro z; cases z⟩)
  | chainsFrom i => exact .inr (.inr ⟨trivial, rfl, by intro z; cases z⟩)
  | evaluateWithPiece l r => exact .inr (.inr ⟨trivial, rfl, by intro z; cases z⟩)
  | _ => exact .inr (.inl ⟨trivial, rfl, rfl⟩)
theorem new_same {f : Floor} {c : Cl115} (h : okPlain c ∨ okQuery c) : newP f c = f := by
  cases c with
  | addPiece l r => exact h.elim False.elim False.elim
  | removePiece i => exact h.elim False.elim False.elim
  | setPiece i l r => exact h.elim False.elim False.elim
  | _ => rfl
theorem ok_on (F : Top K mg "answer_on_instance" s_answer_on_instance ["pieces", "number", "given"]) (T : Txt K mg) (D_answer_to_change : Def P w K mg base "answer_to_change" 3 ["pieces", "number", "given"] (spOn K okChange)) (D_answer_to_plain_query : Def P w K mg base "answer_to_plain_query" 7 ["pieces", "number"] spPlain)
    (D_answer_to_query : Def P w K mg base "answer_to_query" 7 ["pieces", "number", "given"] (spQuery K)) : Def P w K mg base "answer_on_instance" 8 ["pieces", "number", "given"] (spOn K okOn) := by
  refine Def.of F sc_answer_on_instance (fun vs H Q E h => ?_) (fun ff cdv A outer s H vs Q E hr h => ?_)
  · obtain ⟨a, g, f, c, rfl, _⟩ := h
    rfl
  · obtain ⟨a, g, f, c, rfl, ho, hg, hF, hk, k⟩ := h
    obtain ⟨_, g_LAST_CHANGE⟩ := T.c_LAST_CHANGE
    
    refine ⟨_, (pss_cons (ps_if (pt_cmpR op_le (pv 1) (pe_glob (v := .int (3)) rfl g_LAST_CHANGE ⟨_, rfl⟩) (nomark _)) (pss_one (ps_ret (pe_callD D_answer_to_change (hr.mono (by decide)) rfl (pa_cons (pv 0) (pa_cons (pv 1) (pa_cons (pv 2) pa_nil)))))) pss_nil)
      (pss_cons (ps_if (pt_cmpR op_eq (pe_callB call_len_seq (by rfl) T.len PySem.boot_len (pa_cons (pv 2) pa_nil)) pe_int (nomark _)) (pss_one (ps_ret (pe_callD D_answer_to_plain_query (hr.mono (by decide)) rfl (pa_cons (pv 0) (pa_cons (pv 1) pa_nil))))) pss_nil)
      (pss_one (ps_ret (pe_callD D_answer_to_query (hr.mono (by decide)) rfl (pa_cons (pv 0) (pa_cons (pv 1) (pa_cons (pv 2) pa_nil)))))))), ?_⟩
    refine q_when (b := decide (numOf c ≤ 3)) (et_test (ev_op (ev_var rfl) ev_c rv_I0)) (fun d H1 e1 => ?_) (fun d H1 e1 => ?_)
    · have hc : okChange c := by
        rcases on_cases ho with q | q | q
        · exact q.1
        · rw [q.2.1] at d
          cases d
        · rw [q.2.1] at d
          cases d
      refine s_retRaw ((ea_cons (ev_var rfl) (ea_cons (ev_var rfl) (ea_cons (ev_var rfl) ea_nil)) : EvA _ _ H1 [.ref a, .int (numOf c), .ref g]) H1 (Ex.refl H1) _ fun H2 e2 => ?_)
      exact ⟨a, g, f, c, rfl, hc, ex_l (e1.trans e2) hg, hF.mono (e1.trans e2), hk, k.pre (e1.trans e2)⟩
    · refine q_when (b := (argOf c).length == 0) (et_test (ev_is (ev_op (ev_len (ev_var rfl) (ex_l e1 hg)) ev_c (rv_eq rfl)) (by rw [iV_len]; exact congrArg V.bl (dec_nat _ 0)))) (fun d2 H2 e2 => ?_) (fun d2 H2 e2 => ?_)
      · have hc : okPlain c := by
          rcases on_cases ho with q | q | q
          · rw [q.2] at d
            cases d
          · exact q.1
          · exact absurd (List.eq_nil_of_length_eq_zero (eq_of_beq d2)) q.2.2
        rw [new_same (.inl hc)] at k
        exact s_retL (el_SL mono_pq ⟨a, f, c⟩ (ea_cons (ev_var rfl) (ea_cons (ev_var rfl) ea_nil)) ⟨hF.mono (e1.trans e2), hk, hc⟩) fun p H3 hp e3 h3 => k p H3 (fresh_back (e1.trans e2) hp) (ExB.of ((e1.trans e2).trans e3)) h3 (hF.mono ((e1.trans e2).trans e3))
      · have hc : okQuery c := by
          rcases on_cases ho with q | q | q
          · rw [q.2] at d
            cases d
          · rw [q.2.2] at d2
            cases d2
          · exact q.1
        rw [new_same (.inr hc)] at k
        exact s_retL (el_SL mono_gq ⟨a, g, f, c⟩ (ea_cons (ev_var rfl) (ea_cons (ev_var rfl) (ea_cons (ev_var rfl) ea_nil))) ⟨hF.mono (e1.trans e2), hk, hc, ex_l (e1.trans e2) hg⟩) fun p H3 hp e3 h3 => k p H3 (fresh_back (e1.trans e2) hp) (ExB.of ((e1.trans e2).trans e3)) h3 (hF.mono ((e1.trans e2).trans e3))
end
end BB
namespace BB
open PySem PySem.Spec PyProof.Rows L2 Evl
open Sr115 (Floor pieceAt Piece)
section
variable {P : Program} {w : World} {K : PySem.W.Frag} {mg : Str → Option Value} {base : Heap}
/-! ### end_of_call -/
abbrev s_end_of_call : Stmt := topS 63
theorem sc_end_of_call : FnScope ["calls", "position", "number", "behind"] ["calls", "position"] (defScope s_end_of_call) := ⟨rfl, rfl, rfl, by decide +kernel, rfl, by decide +kernel, by decide +kernel⟩

def pcI : List Int := [0, 2, 1, 3, 0, 1, 0, 0, 0, 0, 0, 1, 1, 1, 1, 2, 0]
def parOf : Cl115 → Int
  | .addPiece _ _ => 2
  | .removePiece _ => 1
  | .setPiece _ _ _ => 3
  | .chain _ => 1
  | .circuit _ => 1
  | .treeCount _ => 1
  | .checkChains _ => 1
  | .chainsFrom _ => 1
  | .evaluateWithPiece _ _ => 2
  | _ => 0
theorem par_at (c : Cl115) : atI (iV pcI) (numOf c) = some (.int (parOf c)) := by
  cases c <;> exact atI_int (by simp [numOf]) rfl
theorem enc_par {c : Cl115} (h : (numOf c == 13) = false) : ((encC c).length : Int) = 1 + parOf c := by
  cases c with
  | checkChains r => cases h
  | _ => rfl
theorem enc_chk {c : Cl115} (h : (numOf c == 13) = true) : ∃ r, c = .checkChains r := by
  cases c with
  | checkChains r => exact ⟨r, rfl⟩
  | _ => cases h; done
structure Eo where
  l : Addr
  pre : List Int
  c : Cl115
  post : List Int
def preEo (x : Eo) (H : Hp) : Prop := SqL K H x.l (iV (x.pre ++ encC x.c ++ x.post))
theorem mono_eo : Mono (preEo (K := K)) := fun x H H' e h => ex_l e h
def spEnd (K : PySem.W.Frag) : Sp := SV (fun x : Eo => [.ref x.l, .int (x.pre.length : Int)]) (preEo (K := K)) (fun x => .int ((x.pre.length + (encC x.c).length : Nat) : Int))
theorem get_mid {pre mid post : List Int} {j : Nat} {x : Int} (h : mid[j]? = some x) : (pre ++ mid ++ post)[pre.length + j]? = some x := by
  rw [List.append_assoc, List.getElem?_append_right (by omega), show pre.length + j - pre.length = j by omega, List.getElem?_append_left (List.getElem?_eq_some_iff.mp h).1]
  exact h
theorem ok_eoc (F : Top K mg "end_of_call" s_end_of_call ["calls", "position"]) (T : Txt K mg) {aPC : Addr} (g_PARAMETER_COUNTS : mg "PARAMETER_COUNTS" = some (.ref aPC)) (hPC : ∀ H : Hp, SqT K H aPC (iV pcI)) : Def P w K mg base "end_of_call" 1 ["calls", "position"] (spEnd K) := by
  refine Def.of F sc_end_of_call (fun vs H Q E h => ?_) (fun ff cdv A outer s H vs Q E hr h => ?_)
  · obtain ⟨x, rfl, _⟩ := h
    rfl
  · obtain ⟨⟨l, pre, c, post⟩, rfl, hl, k⟩ := h
    replace hl : SqL K H l (iV (pre ++ encC c ++ post)) := hl
    replace k : RetV (.int ((pre.length + (encC c).length : Nat) : Int)) H Q := k
    obtain ⟨_, g_CHECK_CHAINS⟩ := T.c_CHECK_CHAINS
    refine ⟨_, (pss_cons (ps_set (i := 2) sc_end_of_call.nd rfl (Or.inl rfl) (pe_ix (ix_listK (K := K)) (pv 0) (pv 1) (fun _ _ => rfl)))
      (pss_cons (ps_set (i := 3) sc_end_of_call.nd rfl (Or.inl rfl) (pe_op op_add (pe_op op_add (pv 1) pe_int) (pe_ix (ix_tupK (K := K)) (pe_glob (v := .ref aPC) rfl g_PARAMETER_COUNTS rfl) (pv 2) (fun _ _ => rfl))))
      (pss_cons (ps_if (pt_cmpR op_eq (pv 2) (pe_glob (v := .int (13)) rfl g_CHECK_CHAINS ⟨_, rfl⟩) (nomark _)) (pss_one (ps_ret (pe_op op_add (pv 3) (pe_ix (ix_listK (K := K)) (pv 0) (pe_op op_add (pv 1) pe_int) (fun _ _ => rfl))))) pss_nil)
      (pss_one (ps_ret (pv 3)))))), ?_⟩
    have h0 : (pre ++ encC c ++ post)[pre.length + 0]? = some (numOf c) := get_mid (by rfl)
    refine q_asg (v := .int (numOf c)) (ev_op (ev_var rfl) (ev_var rfl) (rv_ixL hl (atI_nat (iV_get h0)))) fun H1 e1 => ?_
    refine q_asg (v := .int ((pre.length : Int) + 1 + parOf c)) (ev_op (ev_op (ev_var rfl) ev_c rv_I0) (ev_op ev_c (ev_var rfl) (rv_ixT (hPC _) (par_at c))) rv_I0) fun H2 e2 => ?_
    refine q_when (et_num (ev_var rfl)) (fun d H3 e3 => ?_) (fun d H3 e3 => ?_)
    · obtain ⟨r, rfl⟩ := enc_chk d
      have h1 : (pre ++ encC (.checkChains r) ++ post)[pre.length + 1]? = some (r.length : Int) := get_mid (by rfl)
      have e03 := (e1.trans e2).trans e3
      refine s_ret (v := .int ((pre.length + (encC (.checkChains r)).length : Nat) : Int)) (ev_is (ev_op (ev_var rfl) (ev_op (ev_var rfl) (ev_op (ev_var rfl) ev_c rv_I0) (rv_ixL (ex_l e03 hl) (atI_nat (j := pre.length + 1) (iV_get h1)))) rv_I0) (congrArg V.int ?_)) fun H4 e4 => k H4 (e03.trans e4)
      show (pre.length : Int) + 1 + 1 + (r.length : Int) = ((pre.length + (r.length + 1 + 1) : Nat) : Int)
      omega
    · have ep := enc_par d
      exact s_ret (v := .int ((pre.length + (encC c).length : Nat) : Int)) (ev_is (ev_var rfl) (congrArg V.int (by omega))) fun H4 e4 => k H4 (((e1.trans e2).trans e3).trans e4)
/-! ### answers -/
abbrev s_answers : Stmt := topS 64
theorem sc_answers : FnScope ["calls", "written", "pieces", "position", "number", "behind", "given", "answer"] ["calls"] (defScope s_answers) := ⟨rfl, rfl, rfl, by decide +kernel, rfl, by decide +kernel, by decide +kernel⟩

/-- xs.extend(e) -/
theorem s_ext {σ : L2.St} {H : Hp} {D : L2.Ends} {ta te : TE} {l b : Addr} {xs ys : List V} (hl : H l = some (.lst xs)) (hb : H b = some (.lst ys)) (ha : Ev ta σ H (.ref l)) (h : Ev te σ H (.ref b)) (hz : xs.length + ys.length ≤ 100000) (k : ∀ H1, Ex H H1 → D.nx σ (upd H1 l (.lst (xs ++ ys)))) :
    tDrop (tBM K "list" rExtend ta (tCons te tNil)) D σ H := ha H (Ex.refl H) _ fun H1 e1 =>
  ⟨Or.inl ⟨rfl, xs, sq_of (e1 l _ hl)⟩, h H1 e1 _ fun H2 e2 => ⟨l, b, xs, ys, rfl, rfl, e2 l _ (e1 l _ hl), e2 b _ (e1 b _ hb), sz_of hz, k H2 (e1.trans e2)⟩⟩
theorem rv_isN {x : V} {H : Hp} : RV (fun x y H Q => y = .non ∧ Q (.bl (decide (x = .non))) H) x .non H (.bl (decide (x = .non))) := fun H1 _ _ q => ⟨rfl, q H1 (Ex.refl H1)⟩
theorem cut_mid (pre mid post : List Int) (j : Nat) (hj : j ≤ mid.length) : cutV (iV (pre ++ mid ++ post)) (some ((pre.length + j : Nat) : Int)) (some ((pre.length + mid.length : Nat) : Int)) = iV (mid.drop j) := by
  unfold cutV
  rw [HT.sIx_nat, HT.sIx_nat, iV_len]
  have hl : (pre ++ mid ++ post).length = pre.length + mid.length + post.length := by rw [List.length_append, List.length_append]
  rw [hl, Nat.min_eq_left (by omega), Nat.min_eq_left (by omega), show pre.length + mid.length - (pre.length + j) = (mid.drop j).length by rw [List.length_drop]; omega, iV_drop, iV_take]
  congr 1
  rw [List.append_assoc, List.drop_append, List.drop_of_length_le (show pre.length ≤ pre.length + j by omega), List.nil_append, show pre.length + j - pre.length = j by omega, List.drop_append, show j - mid.length = 0 by omega, List.drop_zero]
  exact List.take_left
def StAt (H H' : Hp) (w : Addr) (s : Sr115.State) (pv : V) : Prop := match s with
  | none => pv = .non
  | some f => ∃ a, pv = .ref a ∧ H a = none ∧ a ≠ w ∧ Fl H' a f
theorem StAt.mono {H H1 H2 : Hp} {w : Addr} {s : Sr115.State} {pv : V} (h : StAt H H1 w s pv) (e : Ex H1 H2) : StAt H H2 w s pv := by
  cases s with
  | none => exact h
  | some f =>
    obtain ⟨a, h1, h2, h3, h4⟩ := h
    exact ⟨a, h1, h2, h3, h4.mono e⟩
/-- the written list alone has changed -/
theorem StAt.wr {H H1 : Hp} {w : Addr} {s : Sr115.State} {pv : V} {xs ys : List V} (h : StAt H H1 w s pv) (hw : H1 w = some (.lst xs)) : StAt H (upd H1 w (.lst ys)) w s pv := by
  cases s with
  | none => exact h
  | some f =>
    obtain ⟨a, h1, h2, h3, zs, g1, g2, g3⟩ := h
    refine ⟨a, h1, h2, h3, zs, by rw [upd_ne h3]; exact g1, g2, fun z hz => ?_⟩
    have q := g3 z hz
    have ne : z.1 ≠ w := fun e => by
      rw [e, hw] at q
      cases Option.some.inj q
    rw [upd_ne ne]
    exact q
theorem el_is {te : TE} {σ : L2.St} {H : Hp} {xs ys : List V} (h : EvL te σ H xs) (e : xs = ys) : EvL te σ H ys := e ▸ h
theorem s_asgOn {ok : Cl115 → Prop} {σ : L2.St} {H : Hp} {D : L2.Ends} {ta : TA} {E : XK} {i : Nat} {a g : Addr} {f : Floor} {c : Cl115} (ha : EvA ta σ H [.ref a, .int (numOf c), .ref g]) (ho : ok c) (hg : SqL K H g (iV (argOf c))) (hF : Fl H a f) (hk : Fok f)
    (k : ∀ p H1, H p = none → ExB a H H1 → H1 p = some (.lst (iV (ansP f c))) → Fl H1 a (newP f c) → D.nx (σ.set i (some (.ref p))) H1) : tAsg (tCall (spOn K ok) [] E ta) (gName i) D σ H := ha H (Ex.refl H) _ fun H2 e2 =>
  ⟨a, g, f, c, rfl, ho, ex_l e2 hg, hF.mono e2, hk, fun p H3 hp b3 h3 hN => k p H3 (fresh_back e2 hp) ((ExB.of e2).trans b3) h3 hN⟩
theorem flat_split {cs : List Cl115} {i : Nat} {c : Cl115} (h : cs[i]? = some c) : flatC cs = flatC (cs.take i) ++ encC c ++ flatC (cs.drop (i + 1)) := by
  have hi : i < cs.length := (List.getElem?_eq_some_iff.mp h).1
  have e : cs = cs.take i ++ (c :: cs.drop (i + 1)) := by
    conv => lhs; rw [← List.take_append_drop i cs]
    congr 1
    rw [List.drop_eq_getElem_cons hi, (List.getElem?_eq_some_iff.mp h).2]
  have e2 := congrArg flatC e
  rw [e2]
  unfold flatC
  rw [List.flatMap_append, List.flatMap_cons, List.append_assoc]
theorem enc_pos (c : Cl115) : 1 ≤ (encC c).length := Nat.succ_le_succ (Nat.zero_le _)
def spAns (K : PySem.W.Frag) : Sp := fun vs H Q _ => ∃ (a : Addr) (ns : List Int), vs = [.ref a] ∧ SqL K H a (iV ns) ∧ PySr115.answers_asked ns = true ∧ ∀ (H' : Hp) (p : Addr), Ex H H' → H' p = some (.lst (iV (PySr115.answers ns))) → Q (.ref p) H'
theorem ok_ans (F : Top K mg "answers" s_answers ["calls"]) (T : Txt K mg) (D_end_of_call : Def P w K mg base "end_of_call" 1 ["calls", "position"] (spEnd K)) (D_answer_on_instance : Def P w K mg base "answer_on_instance" 8 ["pieces", "number", "given"] (spOn K okOn)) :
    Def P w K mg base "answers" 9 ["calls"] (spAns K) := by
  refine Def.of F sc_answers (fun vs H Q E h => ?_) (fun ff cdv A outer s H vs Q E hr h => ?_)
  · obtain ⟨a, ns, rfl, _⟩ := h
    rfl
  · obtain ⟨l, ns, rfl, hl, hask, k⟩ := h
    obtain ⟨cs, h60, rfl, hrow, hans⟩ := asked_calls hask
    rw [hans] at k
    clear hask hans
    obtain ⟨_, g_CREATE⟩ := T.c_CREATE
    obtain ⟨_, g_NO_INSTANCE⟩ := T.c_NO_INSTANCE
    
    refine ⟨_, (pss_cons (ps_set (i := 1) sc_answers.nd rfl (Or.inl rfl) (pe_lst pa_nil))
      (pss_cons (ps_set (i := 2) sc_answers.nd rfl (Or.inl rfl) pe_non)
      (pss_cons (ps_set (i := 3) sc_answers.nd rfl (Or.inl rfl) pe_int)
      (pss_cons (ps_while PassesOwn.never (pt_cmpR op_lt (pv 3) (pe_callB call_len_seq (by rfl) T.len PySem.boot_len (pa_cons (pv 0) pa_nil)) (nomark _)) (pss_cons (ps_set (i := 4) sc_answers.nd rfl (Or.inl rfl) (pe_ix (ix_listK (K := K)) (pv 0) (pv 3) (fun _ _ => rfl)))
      (pss_cons (ps_set (i := 5) sc_answers.nd rfl (Or.inl rfl) (pe_callD D_end_of_call (hr.mono (by decide)) rfl (pa_cons (pv 0) (pa_cons (pv 3) pa_nil))))
      (pss_cons (ps_set (i := 6) sc_answers.nd rfl (Or.inl rfl) (pe_slice (sl_listK (K := K)) (pv 0) (po_some (pe_op op_add (pv 3) pe_int)) (po_some (pv 5))))
      (pss_cons (ps_set (i := 3) sc_answers.nd rfl (Or.inl rfl) (pv 5))
      (pss_cut (ps_if (pt_cmpR op_eq (pv 4) (pe_glob (v := .int (0)) rfl g_CREATE ⟨_, rfl⟩) (nomark _)) (pss_cons (ps_set (i := 2) sc_answers.nd rfl (Or.inl rfl) (pe_lst pa_nil))
      (pss_one (ps_set (i := 7) sc_answers.nd rfl (Or.inl rfl) (pe_lst (pa_cons pe_int pa_nil))))) (pss_one (ps_if (pt_cmpR op_isN (pv 2) pe_non (nomark _)) (pss_one (ps_set (i := 7) sc_answers.nd rfl (Or.inl rfl) (pe_lst (pa_cons (pe_glob (v := .int (-11)) rfl g_NO_INSTANCE ⟨_, rfl⟩) pa_nil)))) (pss_one (ps_set (i := 7) sc_answers.nd rfl (Or.inl rfl) (pe_callD D_answer_on_instance (hr.mono (by decide)) rfl (pa_cons (pv 2) (pa_cons (pv 4) (pa_cons (pv 6) pa_nil)))))))))
      (pss_cons (ps_expr (pe_bm PySem.F.plainAttrs_list PySem.F.slot_list_append PySem.F.type_list_append mt_append (pv 1) (pa_cons (pe_callB call_len_seq (by rfl) T.len PySem.boot_len (pa_cons (pv 7) pa_nil)) pa_nil)))
      (pss_one (ps_expr (pe_bm PySem.F.plainAttrs_list PySem.F.slot_list_extend PySem.F.type_list_extend mt_extend (pv 1) (pa_cons (pv 7) pa_nil)))))))))))
      (pss_one (ps_ret (pv 1))))))), ?_⟩
    refine q_asgL (el_lst ea_nil (by decide)) fun w H1 hw e1 h1 => ?_
    refine q_asg ev_c fun H2 e2 => ?_
    refine q_asg ev_c fun H3 e3 => ?_
    have e03 := (e1.trans e2).trans e3
    refine q_while (fun m σ' H' => ∃ i pv v4 v5 v6 v7, m = cs.length - i ∧ i ≤ cs.length ∧ σ' = [some (.ref l), some (.ref w), some pv, some (.int ((flatC (cs.take i)).length : Int)), v4, v5, v6, v7] ∧ Ex H H' ∧ H' w = some (.lst (iV (toldC (cs.take i)))) ∧ StAt H H' w (stAfter (cs.take i)) pv)
      cs.length ⟨0, .non, none, none, none, none, rfl, Nat.zero_le _, rfl, e03, e3 _ _ (e2 _ _ h1), rfl⟩ (fun m σ' H' hW => ?_)
    obtain ⟨i, pv, v4, v5, v6, v7, rfl, hi, rfl, ee, hwr, hst⟩ := hW
    refine ⟨decide (i < cs.length), et_test (ev_is (ev_op (ev_var rfl) (ev_len (ev_var rfl) (ex_l ee hl)) rv_I0) (congrArg V.bl (decide_eq_decide.mpr ?_))), fun c0 H4 e4 => ?_, fun c0 H4 e4 => ?_⟩
    · rw [iV_len]
      by_cases z : i < cs.length
      · have hq : cs[i]? = some cs[i] := List.getElem?_eq_getElem z
        have e := flat_split hq
        have q := enc_pos cs[i]
        rw [e, List.length_append, List.length_append]
        constructor
        · intro _; exact z
        · intro _; omega
      · rw [List.take_of_length_le (by omega)]
        omega
    · have hic := of_decide_eq_true c0
      obtain ⟨c, hc⟩ : ∃ c, cs[i]? = some c := ⟨_, List.getElem?_eq_getElem hic⟩
      have hsp := flat_split hc
      rw [hsp] at hl
      have htk : cs.take (i + 1) = cs.take i ++ [c] := by
        rw [List.take_add_one, hc]
        rfl
      have hrc := hrow c (List.mem_of_getElem? hc)
      refine ⟨fun σ2 H5 => ∃ pv v4 v5 v6 v7, σ2 = [some (.ref l), some (.ref w), some pv, some (.int ((flatC (cs.take (i + 1))).length : Int)), v4, v5, v6, v7] ∧ Ex H H5 ∧ H5 w = some (.lst (iV (toldC (cs.take (i + 1))))) ∧ StAt H H5 w (stAfter (cs.take (i + 1))) pv, fun σ2 H5 hN => ?_, ?_⟩
      · obtain ⟨pv, v4, v5, v6, v7, q1, q2, q3, q4⟩ := hN
        exact ⟨cs.length - (i + 1), by omega, i + 1, pv, v4, v5, v6, v7, rfl, hic, q1, q2, q3, q4⟩
      · have ee4 := ee.trans e4
        have h0 : (flatC (cs.take i) ++ encC c ++ flatC (cs.drop (i + 1)))[(flatC (cs.take i)).length + 0]? = some (numOf c) := get_mid (by rfl)
        refine q_asg (v := .int (numOf c)) (ev_op (ev_var rfl) (ev_var rfl) (rv_ixL (ex_l ee4 hl) (atI_nat (iV_get h0)))) fun H5 e5 => ?_
        have ee5 := ee4.trans e5
        refine q_asg (v := .int (((flatC (cs.take i)).length + (encC c).length : Nat) : Int)) (ev_SV mono_eo ⟨l, flatC (cs.take i), c, flatC (cs.drop (i + 1))⟩ (ea_cons (ev_var rfl) (ea_cons (ev_var rfl) ea_nil)) (ex_l ee5 hl)) fun H6 e6 => ?_
        have ee6 := ee5.trans e6
        refine q_asgL (xs := iV (argOf c)) (el_is (el_sl (ev_var rfl) (eo_some (ev_op (ev_var rfl) ev_c rv_I0)) (eo_some (ev_var rfl)) (ex_l ee6 hl)) (cut_mid _ _ _ 1 (enc_pos c))) fun g H7 hg e7 h7 => ?_
        have ee7 := ee6.trans e7
        refine q_asg (ev_var rfl) fun H8 e8 => ?_
        have ee8 := ee7.trans e8
        have e48 : Ex H' H8 := (((e4.trans e5).trans e6).trans e7).trans e8
        have hst8 := hst.mono e48
        have hwr8 := e48 _ _ hwr
        have hflat : ((flatC (cs.take i)).length + (encC c).length) = (flatC (cs.take (i + 1))).length := by rw [htk, flat_app, List.length_append]
        refine q_cut (M := fun σ2 H9 => ∃ pv r, σ2 = [some (.ref l), some (.ref w), some pv, some (.int ((flatC (cs.take (i + 1))).length : Int)), some (.int (numOf c)), some (.int (((flatC (cs.take i)).length + (encC c).length : Nat) : Int)), some (.ref g), some (.ref r)] ∧ Ex H H9 ∧ H9 w = some (.lst (iV (toldC (cs.take i)))) ∧
            H9 r = some (.lst (iV (resL (Sr115.step (stAfter (cs.take i)) c).2))) ∧ r ≠ w ∧ StAt H H9 w (stAfter (cs.take (i + 1))) pv) ?_ ?_
        · rw [htk, st_app]
          rw [htk] at hflat
          refine s_if (et_num (ev_var rfl)) (fun d H9 e9 => ?_) (fun d H9 e9 => ?_)
          · have hcr := num_zero (eq_of_beq d)
            subst hcr
            refine q_asgL (el_lst ea_nil (by decide)) fun a H10 ha e10 h10 => ?_
            refine s_asgL (el_lst (ea_cons ev_c ea_nil) (by show 1 ≤ 100000; decide)) fun r H11 hr11 e11 h11 => ?_
            have hw9 := e9 _ _ hwr8
            have hw10 := e10 _ _ hw9
            refine ⟨.ref a, r, ?_, ((ee8.trans e9).trans e10).trans e11, e11 _ _ hw10, h11, (ne_of_none hw10 hr11).symm, a, rfl, fresh_back (ee8.trans e9) ha, (ne_of_none hw9 ha).symm, Objs.nil (e11 _ _ h10)⟩
            rw [← hflat]
            rfl
          · have hn0 : numOf c ≠ 0 := fun z => by
              rw [z] at d
              cases d
            have hw9 := e9 _ _ hwr8
            cases hs : stAfter (cs.take i) with
            | none =>
              have hst9 := hst8
              rw [hs] at hst9
              have hpv : pv = .non := hst9
              subst hpv
              refine s_if (b := true) (et_test (ev_is (ev_op (ev_var rfl) ev_c rv_isN) rfl)) (fun _ H10 e10 => ?_) (fun z => by cases z)
              rw [step_none c hn0]
              refine s_asgL (el_lst (ea_cons ev_c ea_nil) (by show 1 ≤ 100000; decide)) fun r H11 hr11 e11 h11 => ?_
              have hw10 := e10 _ _ hw9
              refine ⟨.non, r, ?_, ((ee8.trans e9).trans e10).trans e11, e11 _ _ hw10, h11, (ne_of_none hw10 hr11).symm, rfl⟩
              rw [← hflat]
              rfl
            | some f =>
              have hst9 := hst8
              rw [hs] at hst9
              obtain ⟨a, rfl, ha0, haw, hF⟩ := hst9
              have hk : Fok f := st_ok _ _ rfl f hs
              refine s_if (b := false) (et_test (ev_is (ev_op (ev_var rfl) ev_c rv_isN) rfl)) (fun z => by cases z) (fun _ H10 e10 => ?_)
              rw [step_some f c hn0]
              have e811 := e9.trans e10
              refine s_asgOn (ea_cons (ev_var rfl) (ea_cons (ev_var rfl) (ea_cons (ev_var rfl) ea_nil))) ⟨hn0, hrc⟩ (sq_of (e811 _ _ (e8 _ _ h7))) (hF.mono e811) hk fun r H12 hr12 b12 h12 hN => ?_
              have hw11 := e811 _ _ hwr8
              refine ⟨.ref a, r, ?_, ExB.ex (ee8.trans e811) b12 ha0, b12 _ _ (fun z => haw z.symm) hw11, h12, (ne_of_none hw11 hr12).symm, a, rfl, ha0, haw, hN⟩
              rw [← hflat]
              rfl
        · rintro σ2 H9 ⟨pv, r, rfl, q1, q2, q3, q4, q5⟩
          have hlen := told_len _ (cs.take i) rfl
          have hlen2 := res_len (cs.take i) c
          have htl : (cs.take i).length ≤ 60 := by
            rw [List.length_take]
            omega
          refine q_app q2 (ev_var rfl) (ev_len (ev_var rfl) (sq_of q3)) (by rw [iV_len]; omega) fun H10 e10 => ?_
          have hr10 : (upd H10 w (.lst (iV (toldC (cs.take i)) ++ [V.int ((iV (resL (Sr115.step (stAfter (cs.take i)) c).2)).length : Int)]))) r = some (.lst (iV (resL (Sr115.step (stAfter (cs.take i)) c).2))) := by
            rw [upd_ne q4]
            exact e10 _ _ q3
          refine s_ext upd_same hr10 (ev_var rfl) (ev_var rfl) (by rw [List.length_append, iV_len, iV_len]; show _ + 1 + _ ≤ 100000; omega) fun H11 e11 => ?_
          have hst10 := ((q5.mono e10).wr (ys := iV (toldC (cs.take i)) ++ [V.int ((iV (resL (Sr115.step (stAfter (cs.take i)) c).2)).length : Int)]) (e10 _ _ q2)).mono e11
          refine ⟨pv, _, _, _, _, rfl, Ex.mut ((Ex.mut (q1.trans e10) hw).trans e11) hw, ?_, hst10.wr (e11 _ _ upd_same)⟩
          rw [upd_same, htk, told_app, iV_len, iV_app]
          show some (HO.lst (iV (toldC (cs.take i)) ++ [V.int _] ++ iV (resL _))) = some (HO.lst (iV (toldC (cs.take i)) ++ (V.int _ :: iV (resL _))))
          rw [List.append_assoc]
          rfl
    · have hic : i = cs.length := by
        have := of_decide_eq_false c0
        omega
      rw [hic, List.take_length] at hwr
      exact s_ret (ev_var rfl) fun H5 e5 => k H5 w ((ee.trans e4).trans e5) (e5 _ _ (e4 _ _ hwr))
end
end BB
namespace BB
open PySem PySem.Spec PyProof.Rows L2 Evl
section
variable {P : Program} {w : World} {K : PySem.W.Frag} {mg : Str → Option Value} {base : Heap}
/-! ### all defs together -/
structure Tops (K : PySem.W.Frag) (mg : Str → Option Value) : Prop where
  F_fits_behind : Top K mg "fits_behind" s_fits_behind ["pieces", "laid", "i"]
  F_longer_chains : Top K mg "longer_chains" s_longer_chains ["pieces", "shorter"]
  F_complete_chains : Top K mg "complete_chains" s_complete_chains ["pieces"]
  F_begins_with : Top K mg "begins_with" s_begins_with ["pieces", "laid", "mark"]
  F_closes : Top K mg "closes" s_closes ["pieces", "laid"]
  F_circuits : Top K mg "circuits" s_circuits ["pieces"]
  F_is_chain : Top K mg "is_chain" s_is_chain ["pieces", "numbers"]
  F_separated_lists : Top K mg "separated_lists" s_separated_lists ["numbers"]
  F_holds_each_piece_once : Top K mg "holds_each_piece_once" s_holds_each_piece_once ["pieces", "numbers"]
  F_lays_all_pieces : Top K mg "lays_all_pieces" s_lays_all_pieces ["pieces", "numbers"]
  F_is_mark : Top K mg "is_mark" s_is_mark ["number"]
  F_excess_of_each_mark : Top K mg "excess_of_each_mark" s_excess_of_each_mark ["pieces"]
  F_used_marks : Top K mg "used_marks" s_used_marks ["pieces"]
  F_joined : Top K mg "joined" s_joined ["names", "one", "other"]
  F_component_of_each_mark : Top K mg "component_of_each_mark" s_component_of_each_mark ["pieces"]
  F_component_names : Top K mg "component_names" s_component_names ["pieces"]
  F_fewest_chains : Top K mg "fewest_chains" s_fewest_chains ["pieces"]
  F_pieces_from : Top K mg "pieces_from" s_pieces_from ["pieces", "mark"]
  F_with_a_choice : Top K mg "with_a_choice" s_with_a_choice ["choices", "pieces", "mark"]
  F_all_choices : Top K mg "all_choices" s_all_choices ["pieces", "target"]
  F_leads_to : Top K mg "leads_to" s_leads_to ["chosen", "mark", "target"]
  F_is_tree : Top K mg "is_tree" s_is_tree ["chosen", "target"]
  F_number_of_trees : Top K mg "number_of_trees" s_number_of_trees ["pieces", "target"]
  F_factorial : Top K mg "factorial" s_factorial ["number"]
  F_circuits_by_trees : Top K mg "circuits_by_trees" s_circuits_by_trees ["pieces"]
  F_is_index : Top K mg "is_index" s_is_index ["number", "things"]
  F_add_piece : Top K mg "add_piece" s_add_piece ["pieces", "left", "right"]
  F_remove_piece : Top K mg "remove_piece" s_remove_piece ["pieces", "i"]
  F_set_piece : Top K mg "set_piece" s_set_piece ["pieces", "i", "left", "right"]
  F_chain_count : Top K mg "chain_count" s_chain_count ["pieces"]
  F_chain : Top K mg "chain" s_chain ["pieces", "k"]
  F_single_chain_possible : Top K mg "single_chain_possible" s_single_chain_possible ["pieces"]
  F_min_chains : Top K mg "min_chains" s_min_chains ["pieces"]
  F_excesses : Top K mg "excesses" s_excesses ["pieces"]
  F_components : Top K mg "components" s_components ["pieces"]
  F_circuit_count : Top K mg "circuit_count" s_circuit_count ["pieces"]
  F_circuit : Top K mg "circuit" s_circuit ["pieces", "k"]
  F_tree_count : Top K mg "tree_count" s_tree_count ["pieces", "mark"]
  F_check_chains : Top K mg "check_chains" s_check_chains ["pieces", "numbers"]
  F_chains_from : Top K mg "chains_from" s_chains_from ["pieces", "mark"]
  F_evaluate_with_piece : Top K mg "evaluate_with_piece" s_evaluate_with_piece ["pieces", "left", "right"]
  F_describe : Top K mg "describe" s_describe ["pieces"]
  F_answer_to_change : Top K mg "answer_to_change" s_answer_to_change ["pieces", "number", "given"]
  F_answer_to_plain_query : Top K mg "answer_to_plain_query" s_answer_to_plain_query ["pieces", "number"]
  F_answer_to_query : Top K mg "answer_to_query" s_answer_to_query ["pieces", "number", "given"]
  F_answer_on_instance : Top K mg "answer_on_instance" s_answer_on_instance ["pieces", "number", "given"]
  F_end_of_call : Top K mg "end_of_call" s_end_of_call ["calls", "position"]
  F_answers : Top K mg "answers" s_answers ["calls"]
theorem all_ok (T : Txt K mg) (F : Tops K mg) {aPC : Addr} (gPC : mg "PARAMETER_COUNTS" = some (.ref aPC)) (hPC : ∀ H : Hp, SqT K H aPC (iV pcI)) : Def P w K mg base "answers" 9 ["calls"] (spAns K) := by
  have D_fits_behind : Def P w K mg base "fits_behind" 1 ["pieces", "laid", "i"] (spFits K) := ok_fits F.F_fits_behind T
  have D_longer_chains : Def P w K mg base "longer_chains" 2 ["pieces", "shorter"] spLonger := ok_longer F.F_longer_chains T D_fits_behind
  have D_complete_chains : Def P w K mg base "complete_chains" 3 ["pieces"] spComplete := ok_complete F.F_complete_chains T D_longer_chains
  have D_begins_with : Def P w K mg base "begins_with" 1 ["pieces", "laid", "mark"] (spBeg K) := ok_begins F.F_begins_with T
  have D_closes : Def P w K mg base "closes" 1 ["pieces", "laid"] (spCl K) := ok_closes F.F_closes T
  have D_circuits : Def P w K mg base "circuits" 4 ["pieces"] spCircuits := ok_circuits F.F_circuits T D_complete_chains D_closes
  have D_is_chain : Def P w K mg base "is_chain" 2 ["pieces", "numbers"] (spIsCh K) := ok_is_chain F.F_is_chain T D_fits_behind
  have D_separated_lists : Def P w K mg base "separated_lists" 1 ["numbers"] (spSep K) := ok_sep F.F_separated_lists T
  have D_holds_each_piece_once : Def P w K mg base "holds_each_piece_once" 1 ["pieces", "numbers"] (spHol K) := ok_holds F.F_holds_each_piece_once T
  have D_lays_all_pieces : Def P w K mg base "lays_all_pieces" 3 ["pieces", "numbers"] (spLays K) := ok_lays F.F_lays_all_pieces T D_separated_lists D_is_chain D_holds_each_piece_once
  have D_is_mark : Def P w K mg base "is_mark" 1 ["number"] spIsMark := ok_is_mark F.F_is_mark T
  have D_excess_of_each_mark : Def P w K mg base "excess_of_each_mark" 1 ["pieces"] spEx := ok_excess F.F_excess_of_each_mark T
  have D_used_marks : Def P w K mg base "used_marks" 1 ["pieces"] spUsed := ok_used F.F_used_marks T
  have D_joined : Def P w K mg base "joined" 1 ["names", "one", "other"] (spJoin K) := ok_joined F.F_joined T
  have D_component_of_each_mark : Def P w K mg base "component_of_each_mark" 2 ["pieces"] spNames := ok_names F.F_component_of_each_mark T D_joined
  have D_component_names : Def P w K mg base "component_names" 3 ["pieces"] spCNames := ok_cnames F.F_component_names T D_component_of_each_mark D_used_marks
  have D_fewest_chains : Def P w K mg base "fewest_chains" 4 ["pieces"] spFew := ok_fewest F.F_fewest_chains T D_component_of_each_mark D_excess_of_each_mark D_component_names
  have D_pieces_from : Def P w K mg base "pieces_from" 1 ["pieces", "mark"] spFrom := ok_from F.F_pieces_from T
  have D_with_a_choice : Def P w K mg base "with_a_choice" 2 ["choices", "pieces", "mark"] spWith := ok_with F.F_with_a_choice T D_pieces_from
  have D_all_choices : Def P w K mg base "all_choices" 3 ["pieces", "target"] spAll := ok_all F.F_all_choices T D_used_marks D_with_a_choice
  have D_leads_to : Def P w K mg base "leads_to" 1 ["chosen", "mark", "target"] (spLeads K) := ok_leads F.F_leads_to T
  have D_is_tree : Def P w K mg base "is_tree" 2 ["chosen", "target"] (spTree K) := ok_tree F.F_is_tree T D_leads_to
  have D_number_of_trees : Def P w K mg base "number_of_trees" 4 ["pieces", "target"] spTrees := ok_trees F.F_number_of_trees T D_all_choices D_is_tree
  have D_factorial : Def P w K mg base "factorial" 1 ["number"] spFac := ok_fac F.F_factorial T
  have D_circuits_by_trees : Def P w K mg base "circuits_by_trees" 5 ["pieces"] spCbt := ok_cbt F.F_circuits_by_trees T D_component_names D_excess_of_each_mark D_number_of_trees D_used_marks D_factorial D_pieces_from
  have D_is_index : Def P w K mg base "is_index" 1 ["number", "things"] spIdx := ok_index F.F_is_index T
  have D_add_piece : Def P w K mg base "add_piece" 2 ["pieces", "left", "right"] spAdd := ok_add F.F_add_piece T D_is_mark
  have D_remove_piece : Def P w K mg base "remove_piece" 2 ["pieces", "i"] spRem := ok_rem F.F_remove_piece T D_is_index
  have D_set_piece : Def P w K mg base "set_piece" 2 ["pieces", "i", "left", "right"] spSet := ok_set F.F_set_piece T D_is_index D_is_mark
  have D_chain_count : Def P w K mg base "chain_count" 4 ["pieces"] (spQ0 .chainCount) := ok_count F.F_chain_count T D_complete_chains
  have D_chain : Def P w K mg base "chain" 4 ["pieces", "k"] (spQ1 .chain) := ok_chain F.F_chain T D_complete_chains D_is_index
  have D_single_chain_possible : Def P w K mg base "single_chain_possible" 5 ["pieces"] (spQ0 .singleChainPossible) := ok_single F.F_single_chain_possible T D_fewest_chains
  have D_min_chains : Def P w K mg base "min_chains" 5 ["pieces"] (spQ0 .minChains) := ok_min F.F_min_chains T D_fewest_chains
  have D_excesses : Def P w K mg base "excesses" 2 ["pieces"] (spQ0 .excesses) := ok_excesses F.F_excesses T D_excess_of_each_mark
  have D_components : Def P w K mg base "components" 4 ["pieces"] (spQ0 .components) := ok_components F.F_components T D_component_names
  have D_circuit_count : Def P w K mg base "circuit_count" 6 ["pieces"] (spQ0 .circuitCount) := ok_ccount F.F_circuit_count T D_circuits D_circuits_by_trees
  have D_circuit : Def P w K mg base "circuit" 5 ["pieces", "k"] (spQ1 .circuit) := ok_circuit F.F_circuit T D_circuits D_is_index
  have D_tree_count : Def P w K mg base "tree_count" 5 ["pieces", "mark"] (spQ1 .treeCount) := ok_tcount F.F_tree_count T D_is_mark D_used_marks D_number_of_trees
  have D_check_chains : Def P w K mg base "check_chains" 4 ["pieces", "numbers"] (spCheck K) := ok_check F.F_check_chains T D_is_index D_lays_all_pieces D_separated_lists
  have D_chains_from : Def P w K mg base "chains_from" 4 ["pieces", "mark"] (spQ1 .chainsFrom) := ok_cfrom F.F_chains_from T D_is_mark D_complete_chains D_begins_with
  have D_evaluate_with_piece : Def P w K mg base "evaluate_with_piece" 6 ["pieces", "left", "right"] spEval := ok_eval F.F_evaluate_with_piece T D_add_piece D_min_chains D_chain_count
  have D_describe : Def P w K mg base "describe" 1 ["pieces"] (spQ0 .describe) := ok_desc F.F_describe T
  have D_answer_to_change : Def P w K mg base "answer_to_change" 3 ["pieces", "number", "given"] (spOn K okChange) := ok_change F.F_answer_to_change T D_add_piece D_remove_piece D_set_piece
  have D_answer_to_plain_query : Def P w K mg base "answer_to_plain_query" 7 ["pieces", "number"] spPlain := ok_plain F.F_answer_to_plain_query T D_chain_count D_single_chain_possible D_min_chains D_excesses D_components D_circuit_count D_describe
  have D_answer_to_query : Def P w K mg base "answer_to_query" 7 ["pieces", "number", "given"] (spQuery K) := ok_query F.F_answer_to_query T D_chain D_circuit D_tree_count D_check_chains D_chains_from D_evaluate_with_piece
  have D_answer_on_instance : Def P w K mg base "answer_on_instance" 8 ["pieces", "number", "given"] (spOn K okOn) := ok_on F.F_answer_on_instance T D_answer_to_change D_answer_to_plain_query D_answer_to_query
  have D_end_of_call : Def P w K mg base "end_of_call" 1 ["calls", "position"] (spEnd K) := ok_eoc F.F_end_of_call T gPC hPC
  have D_answers : Def P w K mg base "answers" 9 ["calls"] (spAns K) := ok_ans F.F_answers T D_end_of_call D_answer_on_instance
  exact D_answers
/-- the facts that k_is finds, put together -/
theorem top_mk {h : Heap} {x : Str} {st : Stmt} {ps : List Str} {f : Addr} {oc : Value} {od an : Option Addr} {osl : Array (Option Value)} {kV doc pm cdv ct : Value} (X : K.In h) (G : h.Ns mainGlobals mg) (a : PySem.W.nsIn K mainGlobals x = some (some (.ref f)))
    (l : K.lookup f = some ⟨oc, od, .func (PySem.W.fnOf x x (defArgs st) (defBody st) (defScope st) .none kV doc pm an cdv ct), osl⟩) (c : PySem.W.codeIn K cdv x = true) (k : PySem.W.keepIn K (.ref f) = true)
    (hb : ∀ (kV doc pm : Value) (an : Option Addr) (cdv ct : Value) (us : List Value), us.length = ps.length → bindArgs (PySem.W.fnOf x x (defArgs st) (defBody st) (defScope st) .none kV doc pm an cdv ct) ⟨us, []⟩ = pure (ps.zip us)) : Top K mg x st ps :=
  ⟨f, _, PySem.W.mg_of X G a, fun_mk l c k, (fun_mk l c k).binds hb⟩
theorem pc_mk {a : Addr} {d : Option Addr} {n : Nat} {sl : Array (Option Value)} {t0 t1 t2 t3 t4 t5 t6 t7 t8 t9 t10 t11 t12 t13 t14 t15 t16 : Tok}
    (l : K.lookup a = some ⟨.type "tuple", d, .seq #[.int 0 t0, .int 2 t1, .int 1 t2, .int 3 t3, .int 0 t4, .int 1 t5, .int 0 t6, .int 0 t7, .int 0 t8, .int 0 t9, .int 0 t10, .int 1 t11, .int 1 t12, .int 1 t13, .int 1 t14, .int 2 t15, .int 0 t16] n, sl⟩) (H : Hp) : SqT K H a (iV pcI) :=
  .inr ⟨_, _, n, l, rfl, rfl, by show 17 ≤ sizeLine; decide, .cons ⟨_, rfl⟩ (.cons ⟨_, rfl⟩ (.cons ⟨_, rfl⟩ (.cons ⟨_, rfl⟩ (.cons ⟨_, rfl⟩ (.cons ⟨_, rfl⟩ (.cons ⟨_, rfl⟩ (.cons ⟨_, rfl⟩ (.cons ⟨_, rfl⟩ (.cons ⟨_, rfl⟩ (.cons ⟨_, rfl⟩ (.cons ⟨_, rfl⟩ (.cons ⟨_, rfl⟩ (.cons ⟨_, rfl⟩ (.cons ⟨_, rfl⟩ (.cons ⟨_, rfl⟩ (.cons ⟨_, rfl⟩ .nil))))))))))))))))⟩
theorem end_mk {P : Program} {w : World} {h : Heap} {fa f : Addr} {oc : Value} {od an : Option Addr} {osl : Array (Option Value)} {kV doc pm cdv ct : Value} (X : K.In h) (G : h.Ns mainGlobals mg) (hfa : mg "answers" = some (.ref fa))
    (T : Txt K mg) (F : Tops K mg) {aPC : Addr} (gPC : mg "PARAMETER_COUNTS" = some (.ref aPC)) (hPC : ∀ H : Hp, SqT K H aPC (iV pcI)) (a : PySem.W.nsIn K mainGlobals "answers" = some (some (.ref f)))
    (l : K.lookup f = some ⟨oc, od, .func (PySem.W.fnOf "answers" "answers" (defArgs s_answers) (defBody s_answers) (defScope s_answers) .none kV doc pm an cdv ct), osl⟩) :
    ∃ fd : FuncData, (∀ (s : Shared) (us : List Value), us.length = (["calls"] : List Str).length → BindsTo s fd ⟨us, []⟩ ((["calls"] : List Str).zip us)) ∧ ∀ base : Heap, K.In base → base.Ns mainGlobals mg → FnOk P w K mg base CX0 9 fa fd ["calls"] (spAns K) := by
  have e := hfa.symm.trans (PySem.W.mg_of X G a)
  cases e
  refine ⟨PySem.W.fnOf "answers" "answers" (defArgs s_answers) (defBody s_answers) (defScope s_answers) .none kV doc pm an cdv ct, fun s us hu => match us, hu with | [_], _ => .of_eq rfl, fun base _ _ => ?_⟩
  obtain ⟨f', fd', hF, hm, _, _, oc', od', osl', lk⟩ := (all_ok (P := P) (w := w) (base := base) T F gPC hPC).ex
  have e2 := hfa.symm.trans hm
  cases e2
  rw [l] at lk
  cases lk
  exact hF
end
end BB
namespace BB
theorem const_mk {K : PySem.W.Frag} {h : PySem.Heap} {mg : PySem.Str → Option PySem.Value} {x : PySem.Str} {n : Int} {t : PySem.Tok} (X : K.In h) (G : h.Ns PySem.mainGlobals mg) (e : PySem.W.nsIn K PySem.mainGlobals x = some (some (.int n t))) : ∃ t, mg x = some (.int n t) := ⟨t, PySem.W.mg_of X G e⟩
abbrev TxtOf {K : PySem.W.Frag} {h : PySem.Heap} (_ : K.In h) (mg : PySem.Str → Option PySem.Value) : Prop := Txt K mg
abbrev TopsOf {K : PySem.W.Frag} {h : PySem.Heap} (_ : K.In h) (mg : PySem.Str → Option PySem.Value) : Prop := Tops K mg
end BB
open PySem PySem.W PyProof.Rows
theorem PySem.Challenge.cw_brokenborder_s01_answers_holds : PySem.Challenge.rw_brokenborder_s01_answers.Holds := by
  w_on; k_headS; (case hw => exact ⟨[.list [.int 0]], by decide +kernel, by decide +kernel⟩)
  k_fillS
  refine L2.walk_specK (r := PySem.Challenge.rw_brokenborder_s01_answers) (k := 9) (CX := L2.CX0) (ps := ["calls"]) (sp := BB.spAns) (by decide +kernel) rfl rfl ⟨rfl, by decide, by decide⟩ (fun w h Y => PySem.W.kIn_of Y) ?F ?S (fun _ _ _ _ z => z)
  case F =>
    intro w mg fa h Y KX G hmg
    have T : BB.TxtOf KX mg := by
      refine' ⟨mg_none_of KX G ?z_len, mg_none_of KX G ?z_range, mg_none_of KX G ?z_all, mg_none_of KX G ?z_any, mg_none_of KX G ?z_sum, mg_none_of KX G ?z_max, mg_none_of KX G ?z_min, mg_none_of KX G ?z_list, mg_none_of KX G ?z_sorted, BB.const_mk KX G ?c_SEPARATOR, BB.const_mk KX G ?c_MARK_COUNT, BB.const_mk KX G ?c_MOST_PIECES, BB.const_mk KX G ?c_NOT_THERE, BB.const_mk KX G ?c_NOT_USED, BB.const_mk KX G ?c_OUT_OF_RANGE, BB.const_mk KX G ?c_TOO_MANY_PIECES, BB.const_mk KX G ?c_NO_INSTANCE, BB.const_mk KX G ?c_CREATE, BB.const_mk KX G ?c_LAST_CHANGE, BB.const_mk KX G ?c_CHECK_CHAINS⟩
      case z_len => k_is
      case z_range => k_is
      case z_all => k_is
      case z_any => k_is
      case z_sum => k_is
      case z_max => k_is
      case z_min => k_is
      case z_list => k_is
      case z_sorted => k_is
      case c_SEPARATOR => k_is
      case c_MARK_COUNT => k_is
      case c_MOST_PIECES => k_is
      case c_NOT_THERE => k_is
      case c_NOT_USED => k_is
      case c_OUT_OF_RANGE => k_is
      case c_TOO_MANY_PIECES => k_is
      case c_NO_INSTANCE => k_is
      case c_CREATE => k_is
      case c_LAST_CHANGE => k_is
      case c_CHECK_CHAINS => k_is
    have F : BB.TopsOf KX mg := by
      refine' ⟨BB.top_mk KX G ?a0 ?l0 ?c0 ?k0 (fun _ _ _ _ _ _ us hl => match us, hl with | [_, _, _], _ => rfl),
        BB.top_mk KX G ?a1 ?l1 ?c1 ?k1 (fun _ _ _ _ _ _ us hl => match us, hl with | [_, _], _ => rfl),
        BB.top_mk KX G ?a2 ?l2 ?c2 ?k2 (fun _ _ _ _ _ _ us hl => match us, hl with | [_], _ => rfl),
        BB.top_mk KX G ?a3 ?l3 ?c3 ?k3 (fun _ _ _ _ _ _ us hl => match us, hl with | [_, _, _], _ => rfl),
        BB.top_mk KX G ?a4 ?l4 ?c4 ?k4 (fun _ _ _ _ _ _ us hl => match us, hl with | [_, _], _ => rfl),
        BB.top_mk KX G ?a5 ?l5 ?c5 ?k5 (fun _ _ _ _ _ _ us hl => match us, hl with | [_], _ => rfl),
        BB.top_mk KX G ?a6 ?l6 ?c6 ?k6 (fun _ _ _ _ _ _ us hl => match us, hl with | [_, _], _ => rfl),
        BB.top_mk KX G ?a7 ?l7 ?c7 ?k7 (fun _ _ _ _ _ _ us hl => match us, hl with | [_], _ => rfl),
        BB.top_mk KX G ?a8 ?l8 ?c8 ?k8 (fun _ _ _ _ _ _ us hl => match us, hl with | [_, _], _ => rfl),
        BB.top_mk KX G ?a9 ?l9 ?c9 ?k9 (fun _ _ _ _ _ _ us hl => match us, hl with | [_, _], _ => rfl),
        BB.top_mk KX G ?a10 ?l10 ?c10 ?k10 (fun _ _ _ _ _ _ us hl => match us, hl with | [_], _ => rfl),
        BB.top_mk KX G ?a11 ?l11 ?c11 ?k11 (fun _ _ _ _ _ _ us hl => match us, hl with | [_], _ => rfl),
        BB.top_mk KX G ?a12 ?l12 ?c12 ?k12 (fun _ _ _ _ _ _ us hl => match us, hl with | [_], _ => rfl),
        BB.top_mk KX G ?a13 ?l13 ?c13 ?k13 (fun _ _ _ _ _ _ us hl => match us, hl with | [_, _, _], _ => rfl),
        BB.top_mk KX G ?a14 ?l14 ?c14 ?k14 (fun _ _ _ _ _ _ us hl => match us, hl with | [_], _ => rfl),
        BB.top_mk KX G ?a15 ?l15 ?c15 ?k15 (fun _ _ _ _ _ _ us hl => match us, hl with | [_], _ => rfl),
        BB.top_mk KX G ?a16 ?l16 ?c16 ?k16 (fun _ _ _ _ _ _ us hl => match us, hl with | [_], _ => rfl),
        BB.top_mk KX G ?a17 ?l17 ?c17 ?k17 (fun _ _ _ _ _ _ us hl => match us, hl with | [_, _], _ => rfl),
        BB.top_mk KX G ?a18 ?l18 ?c18 ?k18 (fun _ _ _ _ _ _ us hl => match us, hl with | [_, _, _], _ => rfl),
        BB.top_mk KX G ?a19 ?l19 ?c19 ?k19 (fun _ _ _ _ _ _ us hl => match us, hl with | [_, _], _ => rfl),
        BB.top_mk KX G ?a20 ?l20 ?c20 ?k20 (fun _ _ _ _ _ _ us hl => match us, hl with | [_, _, _], _ => rfl),
        BB.top_mk KX G ?a21 ?l21 ?c21 ?k21 (fun _ _ _ _ _ _ us hl => match us, hl with | [_, _], _ => rfl),
        BB.top_mk KX G ?a22 ?l22 ?c22 ?k22 (fun _ _ _ _ _ _ us hl => match us, hl with | [_, _], _ => rfl),
        BB.top_mk KX G ?a23 ?l23 ?c23 ?k23 (fun _ _ _ _ _ _ us hl => match us, hl with | [_], _ => rfl),
        BB.top_mk KX G ?a24 ?l24 ?c24 ?k24 (fun _ _ _ _ _ _ us hl => match us, hl with | [_], _ => rfl),
        BB.top_mk KX G ?a25 ?l25 ?c25 ?k25 (fun _ _ _ _ _ _ us hl => match us, hl with | [_, _], _ => rfl),
        BB.top_mk KX G ?a26 ?l26 ?c26 ?k26 (fun _ _ _ _ _ _ us hl => match us, hl with | [_, _, _], _ => rfl),
        BB.top_mk KX G ?a27 ?l27 ?c27 ?k27 (fun _ _ _ _ _ _ us hl => match us, hl with | [_, _], _ => rfl),
        BB.top_mk KX G ?a28 ?l28 ?c28 ?k28 (fun _ _ _ _ _ _ us hl => match us, hl with | [_, _, _, _], _ => rfl),
        BB.top_mk KX G ?a29 ?l29 ?c29 ?k29 (fun _ _ _ _ _ _ us hl => match us, hl with | [_], _ => rfl),
        BB.top_mk KX G ?a30 ?l30 ?c30 ?k30 (fun _ _ _ _ _ _ us hl => match us, hl with | [_, _], _ => rfl),
        BB.top_mk KX G ?a31 ?l31 ?c31 ?k31 (fun _ _ _ _ _ _ us hl => match us, hl with | [_], _ => rfl),
        BB.top_mk KX G ?a32 ?l32 ?c32 ?k32 (fun _ _ _ _ _ _ us hl => match us, hl with | [_], _ => rfl),
        BB.top_mk KX G ?a33 ?l33 ?c33 ?k33 (fun _ _ _ _ _ _ us hl => match us, hl with | [_], _ => rfl),
        BB.top_mk KX G ?a34 ?l34 ?c34 ?k34 (fun _ _ _ _ _ _ us hl => match us, hl with | [_], _ => rfl),
        BB.top_mk KX G ?a35 ?l35 ?c35 ?k35 (fun _ _ _ _ _ _ us hl => match us, hl with | [_], _ => rfl),
        BB.top_mk KX G ?a36 ?l36 ?c36 ?k36 (fun _ _ _ _ _ _ us hl => match us, hl with | [_, _], _ => rfl),
        BB.top_mk KX G ?a37 ?l37 ?c37 ?k37 (fun _ _ _ _ _ _ us hl => match us, hl with | [_, _], _ => rfl),
        BB.top_mk KX G ?a38 ?l38 ?c38 ?k38 (fun _ _ _ _ _ _ us hl => match us, hl with | [_, _], _ => rfl),
        BB.top_mk KX G ?a39 ?l39 ?c39 ?k39 (fun _ _ _ _ _ _ us hl => match us, hl with | [_, _], _ => rfl),
        BB.top_mk KX G ?a40 ?l40 ?c40 ?k40 (fun _ _ _ _ _ _ us hl => match us, hl with | [_, _, _], _ => rfl),
        BB.top_mk KX G ?a41 ?l41 ?c41 ?k41 (fun _ _ _ _ _ _ us hl => match us, hl with | [_], _ => rfl),
        BB.top_mk KX G ?a42 ?l42 ?c42 ?k42 (fun _ _ _ _ _ _ us hl => match us, hl with | [_, _, _], _ => rfl),
        BB.top_mk KX G ?a43 ?l43 ?c43 ?k43 (fun _ _ _ _ _ _ us hl => match us, hl with | [_, _], _ => rfl),
        BB.top_mk KX G ?a44 ?l44 ?c44 ?k44 (fun _ _ _ _ _ _ us hl => match us, hl with | [_, _, _], _ => rfl),
        BB.top_mk KX G ?a45 ?l45 ?c45 ?k45 (fun _ _ _ _ _ _ us hl => match us, hl with | [_, _, _], _ => rfl),
        BB.top_mk KX G ?a46 ?l46 ?c46 ?k46 (fun _ _ _ _ _ _ us hl => match us, hl with | [_, _], _ => rfl),
        BB.top_mk KX G ?a47 ?l47 ?c47 ?k47 (fun _ _ _ _ _ _ us hl => match us, hl with | [_], _ => rfl)⟩
      case a0 => k_is
      case l0 => k_is
      case c0 => k_is
      case k0 => k_is
      case a1 => k_is
      case l1 => k_is
      case c1 => k_is
      case k1 => k_is
      case a2 => k_is
      case l2 => k_is
      case c2 => k_is
      case k2 => k_is
      case a3 => k_is
      case l3 => k_is
      case c3 => k_is
      case k3 => k_is
      case a4 => k_is
      case l4 => k_is
      case c4 => k_is
      case k4 => k_is
      case a5 => k_is
      case l5 => k_is
      case c5 => k_is
      case k5 => k_is
      case a6 => k_is
      case l6 => k_is
      case c6 => k_is
      case k6 => k_is
      case a7 => k_is
      case l7 => k_is
      case c7 => k_is
      case k7 => k_is
      case a8 => k_is
      case l8 => k_is
      case c8 => k_is
      case k8 => k_is
      case a9 => k_is
      case l9 => k_is
      case c9 => k_is
      case k9 => k_is
      case a10 => k_is
      case l10 => k_is
      case c10 => k_is
      case k10 => k_is
      case a11 => k_is
      case l11 => k_is
      case c11 => k_is
      case k11 => k_is
      case a12 => k_is
      case l12 => k_is
      case c12 => k_is
      case k12 => k_is
      case a13 => k_is
      case l13 => k_is
      case c13 => k_is
      case k13 => k_is
      case a14 => k_is
      case l14 => k_is
      case c14 => k_is
      case k14 => k_is
      case a15 => k_is
      case l15 => k_is
      case c15 => k_is
      case k15 => k_is
      case a16 => k_is
      case l16 => k_is
      case c16 => k_is
      case k16 => k_is
      case a17 => k_is
      case l17 => k_is
      case c17 => k_is
      case k17 => k_is
      case a18 => k_is
      case l18 => k_is
      case c18 => k_is
      case k18 => k_is
      case a19 => k_is
      case l19 => k_is
      case c19 => k_is
      case k19 => k_is
      case a20 => k_is
      case l20 => k_is
      case c20 => k_is
      case k20 => k_is
      case a21 => k_is
      case l21 => k_is
      case c21 => k_is
      case k21 => k_is
      case a22 => k_is
      case l22 => k_is
      case c22 => k_is
      case k22 => k_is
      case a23 => k_is
      case l23 => k_is
      case c23 => k_is
      case k23 => k_is
      case a24 => k_is
      case l24 => k_is
      case c24 => k_is
      case k24 => k_is
      case a25 => k_is
      case l25 => k_is
      case c25 => k_is
      case k25 => k_is
      case a26 => k_is
      case l26 => k_is
      case c26 => k_is
      case k26 => k_is
      case a27 => k_is
      case l27 => k_is
      case c27 => k_is
      case k27 => k_is
      case a28 => k_is
      case l28 => k_is
      case c28 => k_is
      case k28 => k_is
      case a29 => k_is
      case l29 => k_is
      case c29 => k_is
      case k29 => k_is
      case a30 => k_is
      case l30 => k_is
      case c30 => k_is
      case k30 => k_is
      case a31 => k_is
      case l31 => k_is
      case c31 => k_is
      case k31 => k_is
      case a32 => k_is
      case l32 => k_is
      case c32 => k_is
      case k32 => k_is
      case a33 => k_is
      case l33 => k_is
      case c33 => k_is
      case k33 => k_is
      case a34 => k_is
      case l34 => k_is
      case c34 => k_is
      case k34 => k_is
      case a35 => k_is
      case l35 => k_is
      case c35 => k_is
      case k35 => k_is
      case a36 => k_is
      case l36 => k_is
      case c36 => k_is
      case k36 => k_is
      case a37 => k_is
      case l37 => k_is
      case c37 => k_is
      case k37 => k_is
      case a38 => k_is
      case l38 => k_is
      case c38 => k_is
      case k38 => k_is
      case a39 => k_is
      case l39 => k_is
      case c39 => k_is
      case k39 => k_is
      case a40 => k_is
      case l40 => k_is
      case c40 => k_is
      case k40 => k_is
      case a41 => k_is
      case l41 => k_is
      case c41 => k_is
      case k41 => k_is
      case a42 => k_is
      case l42 => k_is
      case c42 => k_is
      case k42 => k_is
      case a43 => k_is
      case l43 => k_is
      case c43 => k_is
      case k43 => k_is
      case a44 => k_is
      case l44 => k_is
      case c44 => k_is
      case k44 => k_is
      case a45 => k_is
      case l45 => k_is
      case c45 => k_is
      case k45 => k_is
      case a46 => k_is
      case l46 => k_is
      case c46 => k_is
      case k46 => k_is
      case a47 => k_is
      case l47 => k_is
      case c47 => k_is
      case k47 => k_is
    refine' BB.end_mk KX G hmg T F (mg_of KX G ?p1) (BB.pc_mk ?p2) ?a ?l
    case p1 => k_is
    case p2 => k_is
    case a => k_is
    case l => k_is
  case S =>
    intro K H xs a hO hwi hask hx
    cases hx with
    | cons h1 h2 =>
      cases h2
      cases h1 with
      | lst hs ha =>
        have e := L2.ints_dw a.1 _ ha
        subst e
        exact ⟨_, a.1, rfl, hs, hask, fun H' p _ hp => .lst (L2.SqL.of hp) (L2.dw_ints _)⟩
#print axioms PySem.Challenge.cw_brokenborder_s01_answers_holds
