import PyProof.Rows.All
import HandS.ForMost
import HandS.ForExc
import HandS.TupAny
import HandS.Wide
import HandS.Deep
import HandS.Conv
import HandS.IsInst
import HandS.Style
import HandS.Flow
import HandS.More
import HandS.RaiseMore
import HandS.ExcIs
import HandS.Ends
import HandS.NoneIn
import KE.GoesEnum
import HandS.SortOrd
import HandS.SortRule
import HandS.TupLe
import HandS.TupSets
import PyProof.Rows.Chain
import KE.Datum
import PyProof.ReprLen
import PySem.Challenge.RW_cancelsback_k01_whole_words_struck_in_an
set_option Elab.async false
set_option maxRecDepth 100000
set_option maxHeartbeats 4000000
/-! A layer of values over the abstract heap: what a reading does to plain data. -/
namespace VL
open PySem PySem.Spec PyProof.Rows L2

/-! ### defs that are called where no repr is under way -/
structure FnG (P : Program) (w : World) (K : PySem.W.Frag) (mg : Str → Option Value) (base : Heap) (k : Nat) (f : Addr) (fd : FuncData) (ps : List Str) (sp : Sp) : Prop where
  len : ∀ vs H Q E, sp vs H Q E → vs.length = ps.length
  go : ∀ (A : Around) (outer : List Env) (s : Shared) (H : Hp) (args : Args) (us : List Value) (vs : List V) (Q : VK) (E : XK), A.guards = some [] → Room k A → Env0 P w K mg base A outer s H →
    BindsTo s fd args (ps.zip us) → Vals vs us → sp vs H Q E → codeAny (model P w) A (.call (.ref f) args) (CR (L2.CX P w) outer P w H s Q E) s
theorem FnG.up {P : Program} {w : World} {K : PySem.W.Frag} {mg : Str → Option Value} {base : Heap} {j k : Nat} {f : Addr} {fd : FuncData} {ps : List Str} {sp : Sp} (F : FnG P w K mg base j f fd ps sp) (h : j ≤ k) :
    FnG P w K mg base k f fd ps sp := ⟨F.len, fun A o s H a us vs Q E hg hr => F.go A o s H a us vs Q E hg (hr.mono h)⟩

section
variable {P : Program} {w : World} {K : PySem.W.Frag} {mg : Str → Option Value} {base : Heap}
/-- a def of the text, by its body -/
theorem fng_of {x qual : Str} {st : Stmt} {f : Addr} {fd : FuncData} {N ps : List Str} {k : Nat} {sp : Sp} (F : Fun K x qual st f fd) (S : FnScope N ps (defScope st)) (len : ∀ vs H Q E, sp vs H Q E → vs.length = ps.length)
    (body : ∀ (cd : Value) (A : Around) (o : List Env) (s : Shared) (H : Hp) (vs : List V) (Q : VK) (E : XK), A.guards = some [] → Room k (A.deeper (envOfC qual (defScope st) s.heap.objs.size f cd)) → sp vs H Q E →
      ∃ t, PSs (cxOf (L2.CX P w) P w K mg base N qual (defScope st) f cd A o s H E) (defBody st) t ∧ t { nx := fun _ G => Q .non G, rt := Q } (start N vs) H) : FnG P w K mg base (k + 1) f fd ps sp := by
  obtain ⟨oc, od, kV, doc, pm, an, cd, ct, osl, rfl, lk, hcd⟩ := F.ex
  refine ⟨len, fun A o s H args us vs Q E hg hr e0 hb rv hsp => ?_⟩
  have hl := len _ _ _ _ hsp
  have old : ∀ b u, base.get? b = some u → s.heap.get? b = some u := fun b u e => (e0.bs b u e).1
  have KX : K.In s.heap := e0.mod.kin.keeps old
  have lim : s.heap.NoLimit := e0.mod.nolimit.keeps old
  refine codeAny_call_function hr.depth (KX _ _ lk) rfl S.co S.gen rfl (PySem.W.codeRec_of KX hcd) (hb _ _ _ _ ?_)
  refine wpAny_newFunctionEnv_cells S.kind (fun ⟨n, v⟩ hy => ?_) fun env he s1 x => ?_
  · rcases S.par n (List.of_mem_zip hy).1 with q | q
    · exact .inl q
    · exact .inr ⟨q, PySem.W.cellsFrom_some _ _ _ (.inl q)⟩
  · subst he
    refine ⟨lim.keeps x.toInCall.keep, codeAny_func ?_⟩
    obtain ⟨t, ht, hq⟩ := body cd A o s H vs Q E hg (hr.deeper _) hsp
    have I := inv_start (CX := L2.CX P w) (P := P) (w := w) (K := K) (mg := mg) (A := A) (E := E) S hr.hd e0 hl rv x
    refine wpAny_mono (ht.run [] s1 (start N vs) H _ I hq) (fun fl s2 q => ?_) fun _ _ q => q
    cases fl with
    | ret u => obtain ⟨v, τ, G, J, ru, q⟩ := q; exact ⟨v, G, J.os, J.bare, J.base, J.hok, ru, q⟩
    | next => obtain ⟨τ, G, J, q⟩ := q; exact ⟨V.non, G, J.os, J.bare, J.base, J.hok, rfl, q⟩
    | brk => obtain ⟨_, _, _, q⟩ := q; exact q.elim
    | cont => obtain ⟨_, _, _, q⟩ := q; exact q.elim
end

/-- f(e, ..): what is raised is wished for at the caller's slots -/
def tCl (sp : Sp) (E : L2.St → XK) (t : TA) : TE := fun σ H Q => t σ H fun vs H1 => sp vs H1 Q (E σ)
/-- f(e, .., k = e, ..): g puts the values in the parameters' order -/
def tClK (sp : Sp) (E : L2.St → XK) (g : List V → List V → List V) (t tk : TA) : TE := fun σ H Q => t σ H fun vs H1 => tk σ H1 fun zs H2 => sp (g vs zs) H2 Q (E σ)
section
variable {X : Cx} {k : Nat} {f : Addr} {fd : FuncData} {ps : List Str} {sp : Sp} {E : L2.St → XK} {x : Str} {p pos : Pos} {e : Expr} {es : List Expr} {t tk : TA}
theorem cr_end {pins : List (Addr × Obj)} {σ : L2.St} {H : Hp} {s : Shared} {Q : VK} (I : Inv X pins σ H s) (hx : ∀ σ, PassesAt (L2.CX X.prog X.w) X σ (E σ)) {r : Result} {s2 : Shared}
    (q : CR (L2.CX X.prog X.w) X.stack X.prog X.w H s Q (E σ) r s2) : ∀ u, r = .ok (.ret u) → EP X pins σ Q u s2 := fun u e => by subst e; exact I.after q
theorem pe_cl (F : FnG X.prog X.w X.K X.mg X.base k f fd ps sp) (gd : X.A.guards = some []) (hr : Room k X.A) (hg : Gl X x) (hm : X.mg x = some (.ref f)) (hk : PySem.W.keepIn X.K (.ref f) = true) (hb : Binds X.K fd ps [])
    (hx : ∀ σ, PassesAt (L2.CX X.prog X.w) X σ (E σ)) (ha : PA X (e :: es) t) (hd : (x == ("__debug__" : Str)) = false := by decide) (he : starEach (e :: es) X.env = (false, eval e X.env) :: starEach es X.env := by rfl)
    (hp : (backTo pos (starEach es X.env)).any (·.1) = false := by rfl) : PE X (.Call (.Name x p) (e :: es) [] pos) (tCl sp E t) := by
  refine ⟨fun pins s σ H Q I h => wpAny_Call_Name_kw (ld_glob I hg hm ?_ hd)⟩
  refine PySem.W.callWith_K (h₀ := X.base) I.ok.mod.kin hk (thn (ha.run pos pins s σ H _ I h) fun us s1 ⟨vs, H1, I1, r, q⟩ => ⟨I1.kIn, ?_⟩) he hp
  have hl : us.length = ps.length := by rw [← r.length]; exact F.len _ _ _ _ q
  have b := hb s1 us I1.kIn (by rw [List.append_nil]; exact hl)
  rw [List.append_nil] at b
  refine wpAny_call (codeAny_mono (F.go X.A X.stack s1 H1 ⟨us, []⟩ us vs Q (E σ) gd hr I1.env0 b r q) fun r s2 hq => ?_)
  cases r with
  | error e => exact hx σ pins H1 s1 e s2 I1 hq
  | ok fl => cases fl with
    | ret u => exact I1.after hq
    | next => exact False.elim hq
    | brk => exact False.elim hq
    | cont => exact False.elim hq
variable {ks : List Str} {kws : List Keyword} {g : List Value → List Value → List Value} {gV : List V → List V → List V}
theorem run_clK {pins : List (Addr × Obj)} {σ : L2.St} {H : Hp} {s : Shared} {Q : VK} {us ws : List Value} {vs zs : List V} (F : FnG X.prog X.w X.K X.mg X.base k f fd ps sp) (gd : X.A.guards = some []) (hr : Room k X.A) (hb : KBinds X.K fd ps ks g gV)
    (hx : ∀ σ, PassesAt (L2.CX X.prog X.w) X σ (E σ)) (I : Inv X pins σ H s) (r : Vals vs us) (rz : Vals zs ws) (h : sp (gV vs zs) H Q (E σ)) : wpAny (model X.prog X.w) X.A (call (.ref f) us (ks.zip ws)) (EP X pins σ Q) X.xe s := by
  have r2 := hb.rel r rz
  have hl : (g us ws).length = ps.length := by rw [← r2.length]; exact F.len _ _ _ _ h
  refine wpAny_call (codeAny_mono (F.go X.A X.stack s H ⟨us, ks.zip ws⟩ (g us ws) (gV vs zs) Q (E σ) gd hr I.env0 (hb.to s us ws I.kIn hl) r2 h) fun r s2 hq => ?_)
  cases r with
  | error e => exact hx σ pins H s e s2 I hq
  | ok fl => cases fl with
    | ret u => exact I.after hq
    | next => exact False.elim hq
    | brk => exact False.elim hq
    | cont => exact False.elim hq
theorem pe_clK (F : FnG X.prog X.w X.K X.mg X.base k f fd ps sp) (gd : X.A.guards = some []) (hr : Room k X.A) (hg : Gl X x) (hm : X.mg x = some (.ref f)) (hk : PySem.W.keepIn X.K (.ref f) = true) (hb : KBinds X.K fd ps ks g gV)
    (hx : ∀ σ, PassesAt (L2.CX X.prog X.w) X σ (E σ)) (ha : PA X (e :: es) t) (hkw : PK X kws tk) (hall : (backToKw pos (keywordEach kws X.env)).all (·.1.isSome) = true := by rfl) (hks : (backToKw pos (keywordEach kws X.env)).filterMap (·.1) = ks := by rfl)
    (hd : (x == ("__debug__" : Str)) = false := by decide) (he : starEach (e :: es) X.env = (false, eval e X.env) :: starEach es X.env := by rfl)
    (hp : ((backTo pos (starEach (e :: es) X.env)).any (·.1) || (backToKw pos (keywordEach kws X.env)).any (·.1.isNone)) = false := by rfl) : PE X (.Call (.Name x p) (e :: es) kws pos) (tClK sp E gV t tk) := by
  refine ⟨fun pins s σ H Q I h => wpAny_Call_Name_kw (ld_glob I hg hm ?_ hd)⟩
  refine PySem.W.callWith_KW (h₀ := X.base) I.ok.mod.kin hk hall (thn (ha.run pos pins s σ H _ I h) fun us s1 ⟨vs, H1, I1, r, q⟩ => ?_) hp he
  refine thn (hkw.run pos pins s1 σ H1 _ I1 q) fun ws s2 ⟨zs, H2, I2, rz, q2⟩ => ⟨I2.kIn, ?_⟩
  rw [hks]
  exact run_clK F gd hr hb hx I2 r rz q2
theorem pe_clK0 (F : FnG X.prog X.w X.K X.mg X.base k f fd ps sp) (gd : X.A.guards = some []) (hr : Room k X.A) (hg : Gl X x) (hm : X.mg x = some (.ref f)) (hk : PySem.W.keepIn X.K (.ref f) = true) (hb : KBinds X.K fd ps ks g gV)
    (hx : ∀ σ, PassesAt (L2.CX X.prog X.w) X σ (E σ)) (hkw : PK X kws tk) (hall : (backToKw pos (keywordEach kws X.env)).all (·.1.isSome) = true := by rfl) (hks : (backToKw pos (keywordEach kws X.env)).filterMap (·.1) = ks := by rfl)
    (hd : (x == ("__debug__" : Str)) = false := by decide) (hp : ((backTo pos (starEach [] X.env)).any (·.1) || (backToKw pos (keywordEach kws X.env)).any (·.1.isNone)) = false := by rfl) : PE X (.Call (.Name x p) [] kws pos) (tClK sp E gV tNil tk) := by
  refine ⟨fun pins s σ H Q I h => wpAny_Call_Name_kw (ld_glob I hg hm ?_ hd)⟩
  refine PySem.W.callWith_KW0 (h₀ := X.base) I.ok.mod.kin hk hall (thn (hkw.run pos pins s σ H _ I h) fun ws s2 ⟨zs, H2, I2, rz, q2⟩ => ⟨I2.kIn, ?_⟩) hp
  rw [hks]
  exact run_clK (us := []) F gd hr hb hx I2 .nil rz q2
end
end VL

namespace VL
open PySem PySem.Spec PyProof.Rows L2
abbrev D := PyData
abbrev Sg := L2.St

/-! ### the state as data -/
/-- a slot: not assigned; data; a list of its own (pinned: a parameter that the caller's slot owns); an exception -/
inductive Sl where
  | un
  | im (d : D)
  | ow (pin : Bool) (ds : List D)
  | xn (tag : Nat) (d : D)
  | fv (k : Nat)
abbrev Rho := List Sl
/-- a value: data; a new list; the list that a slot owns -/
inductive Rs where
  | im (d : D)
  | fr (ds : List D)
  | sl (i : Nat)
inductive Ou (α : Type) where
  | bad
  | ok (a : α) (r : Rho)
  | ex (tag : Nat) (d : D) (r : Rho)
/-- what is fixed through a body: the written part, the classes of errors, the pinned addresses, the exception that the suite holds -/
structure Pm where
  K : PySem.W.Frag
  xc : Nat → Addr
  pin : Nat → V
  xa : Addr
  xcl : Value
  xd : Option Addr
abbrev As := Addr → Prop
abbrev atS : Str := Str.ofString "at"

/-- what a slot is fixed to: the list that the caller owns; a def of the text, by its number -/
def fx (p : Pm) (i : Nat) : Sl → Option V
  | .ow true _ => some (p.pin i)
  | .fv k => some (.ref (p.xc (1000 + k)))
  | _ => none
structure Stt (p : Pm) (R H : Hp) (O : As) (σ : Sg) (ρ : Rho) : Prop where
  sub : ∀ b o, R b = some o → H b = some o
  dis : ∀ b, O b → R b = none
  al : ∀ b, O b → H b ≠ none
  len : ρ.length = σ.length
  im : ∀ (i : Nat) d, ρ[i]? = some (.im d) → ∃ v, σ[i]? = some (some v) ∧ Dp p.K R v d
  ow : ∀ (i : Nat) b ds, ρ[i]? = some (.ow b ds) → ∃ a vs, σ[i]? = some (some (.ref a)) ∧ O a ∧ H a = some (.lst vs) ∧ DpAll p.K R vs ds
  pn : ∀ (i : Nat) y v, ρ[i]? = some y → fx p i y = some v → σ[i]? = some (some v)
  inj : ∀ (i j : Nat) b c ds es a, ρ[i]? = some (.ow b ds) → ρ[j]? = some (.ow c es) → σ[i]? = some (some (.ref a)) → σ[j]? = some (some (.ref a)) → i = j
  xn : ∀ (i : Nat) tag d, ρ[i]? = some (.xn tag d) → σ[i]? = some (some (.ref p.xa)) ∧ p.xcl = .ref (p.xc tag) ∧ ∃ dd v, p.xd = some dd ∧ ¬ O dd ∧ H dd = some (.xd [(atS, v)]) ∧ Dp p.K R v d

theorem Stt.pn1 {p : Pm} {R H : Hp} {O : As} {σ : Sg} {ρ : Rho} (S : Stt p R H O σ ρ) (i : Nat) (ds : List D) (e : ρ[i]? = some (.ow true ds)) : σ[i]? = some (some (p.pin i)) := S.pn i _ _ e rfl
structure Tr (R H : Hp) (O : As) (R' H' : Hp) (O' : As) : Prop where
  r : ∀ b o, R b = some o → R' b = some o
  h : ∀ b o, H b = some o → ¬ O b → H' b = some o
  nw : ∀ b, R' b ≠ none → R b ≠ none ∨ H b = none ∨ O b
  o : ∀ b, O' b → O b ∨ H b = none
  k : ∀ b, H b ≠ none → H' b ≠ none
theorem Tr.refl {R H : Hp} {O : As} : Tr R H O R H O := ⟨fun _ _ e => e, fun _ _ e _ => e, fun _ e => .inl e, fun _ e => .inl e, fun _ e => e⟩
theorem Tr.trans {R H R1 H1 R2 H2 : Hp} {O O1 O2 : As} (a : Tr R H O R1 H1 O1) (b : Tr R1 H1 O1 R2 H2 O2) : Tr R H O R2 H2 O2 := by
  have fr : ∀ c, H1 c = none → H c = none ∨ O c := fun c e => by
    by_cases z : O c
    · exact .inr z
    · cases q : H c with
      | none => exact .inl rfl
      | some u => have := a.h c u q z; rw [e] at this; cases this
  refine ⟨fun c o e => b.r c o (a.r c o e), fun c o e n => b.h c o (a.h c o e n) fun z => ?_, fun c e => ?_, fun c e => ?_, fun c e => b.k c (a.k c e)⟩
  · rcases a.o c z with y | y
    · exact n y
    · rw [e] at y; cases y
  · rcases b.nw c e with z | z | z
    · exact a.nw c z
    · exact .inr (fr c z)
    · rcases a.o c z with y | y
      · exact .inr (.inr y)
      · exact .inr (.inl y)
  · rcases b.o c e with z | z
    · exact a.o c z
    · exact (fr c z).symm
theorem Tr.more {R H R' H' : Hp} {O P O' : As} (a : Tr R H P R' H' O') (hp : ∀ b, P b → O b) : Tr R H O R' H' (fun b => O b ∨ O' b) :=
  ⟨a.r, fun b o e n => a.h b o e fun z => n (hp b z), fun b e => (a.nw b e).imp id (Or.imp id (hp b)), fun b e => e.elim .inl fun z => (a.o b z).imp (hp b) id, a.k⟩

theorem Tr.fresh {R H R' H' : Hp} {O O' : As} (T : Tr R H O R' H' O') {b : Addr} (f : H' b = none) : H b = none := by
  cases q : H b with
  | none => rfl
  | some u => exact (T.k b (by rw [q]; exact fun z => nomatch z) f).elim

/-! ### data under growth -/
theorem sqL_mono {K : PySem.W.Frag} {R R' : Hp} {a : Addr} {xs : List V} (m : ∀ b o, R b = some o → R' b = some o) (h : SqL K R a xs) : SqL K R' a xs := by
  rcases h with (h | ⟨o, h⟩) | h
  · exact .inl (.inl (m _ _ h))
  · exact .inl (.inr ⟨o, m _ _ h⟩)
  · exact .inr h
theorem sqT_mono {K : PySem.W.Frag} {R R' : Hp} {a : Addr} {xs : List V} (m : ∀ b o, R b = some o → R' b = some o) (h : SqT K R a xs) : SqT K R' a xs := by
  rcases h with (h | ⟨o, h⟩) | h
  · exact .inl (.inl (m _ _ h))
  · exact .inl (.inr ⟨o, m _ _ h⟩)
  · exact .inr h
mutual
theorem dp_mono {K : PySem.W.Frag} {R R' : Hp} (m : ∀ b o, R b = some o → R' b = some o) : ∀ (d : D) (v : V), Dp K R v d → Dp K R' v d
  | .none, _, h => by cases h; exact .non
  | .bool b, _, h => by cases h; exact .bl b
  | .int i, _, h => by cases h; exact .int i
  | .str x, _, h => by cases h; exact .str x
  | .list ds, _, h => by cases h with | lst hs ha => exact .lst (sqL_mono m hs) (dpAll_mono m ds _ ha)
  | .tuple ds, _, h => by cases h with | tup hs ha => exact .tup (sqT_mono m hs) (dpAll_mono m ds _ ha)
  | .dict _, _, h => by cases h
theorem dpAll_mono {K : PySem.W.Frag} {R R' : Hp} (m : ∀ b o, R b = some o → R' b = some o) : ∀ (ds : List D) (vs : List V), DpAll K R vs ds → DpAll K R' vs ds
  | [], _, h => by cases h; exact .nil
  | d :: ds, _, h => by cases h with | cons h1 h2 => exact .cons (dp_mono m d _ h1) (dpAll_mono m ds _ h2)
end
theorem Tr.dp {K : PySem.W.Frag} {R H R' H' : Hp} {O O' : As} (t : Tr R H O R' H' O') {v : V} {d : D} (h : Dp K R v d) : Dp K R' v d := dp_mono t.r d v h
theorem Tr.dps {K : PySem.W.Frag} {R H R' H' : Hp} {O O' : As} (t : Tr R H O R' H' O') {v : List V} {d : List D} (h : DpAll K R v d) : DpAll K R' v d := dpAll_mono t.r d v h
section
variable {K : PySem.W.Frag} {R : Hp}
theorem dpAll_len : ∀ {vs : List V} {ds : List D}, DpAll K R vs ds → vs.length = ds.length
  | _, _, .nil => rfl
  | _, _, .cons _ t => by rw [List.length_cons, List.length_cons, dpAll_len t]
theorem dpAll_get : ∀ {vs : List V} {ds : List D} {i : Nat} {d : D}, DpAll K R vs ds → ds[i]? = some d → ∃ v, vs[i]? = some v ∧ Dp K R v d
  | _, _, _, _, .nil, e => by simp at e
  | _, _, 0, _, .cons h _, e => by simp at e; subst e; exact ⟨_, rfl, h⟩
  | _, _, i + 1, _, .cons _ t, e => by
    obtain ⟨v, e1, h⟩ := dpAll_get (i := i) t (by simpa using e)
    exact ⟨v, by simpa using e1, h⟩
theorem dpAll_getV : ∀ {vs : List V} {ds : List D} {i : Nat} {v : V}, DpAll K R vs ds → vs[i]? = some v → ∃ d, ds[i]? = some d ∧ Dp K R v d
  | _, _, _, _, .nil, e => by simp at e
  | _, _, 0, _, .cons h _, e => by simp at e; subst e; exact ⟨_, rfl, h⟩
  | _, _, i + 1, _, .cons _ t, e => by
    obtain ⟨v, e1, h⟩ := dpAll_getV (i := i) t (by simpa using e)
    exact ⟨v, by simpa using e1, h⟩
theorem dpAll_app : ∀ {vs ws : List V} {ds es : List D}, DpAll K R vs ds → DpAll K R ws es → DpAll K R (vs ++ ws) (ds ++ es)
  | _, _, _, _, .nil, h => h
  | _, _, _, _, .cons h t, g => .cons h (dpAll_app t g)
theorem dpAll_take : ∀ {vs : List V} {ds : List D} (n : Nat), DpAll K R vs ds → DpAll K R (vs.take n) (ds.take n)
  | _, _, 0, _ => .nil
  | _, _, _ + 1, .nil => .nil
  | _, _, n + 1, .cons h t => .cons h (dpAll_take n t)
theorem dpAll_drop : ∀ {vs : List V} {ds : List D} (n : Nat), DpAll K R vs ds → DpAll K R (vs.drop n) (ds.drop n)
  | _, _, 0, h => h
  | _, _, _ + 1, .nil => .nil
  | _, _, n + 1, .cons _ t => dpAll_drop n t
theorem dpAll_set {v : V} {d : D} (r : Dp K R v d) : ∀ {vs : List V} {ds : List D} (n : Nat), DpAll K R vs ds → DpAll K R (vs.set n v) (ds.set n d)
  | _, _, _, .nil => .nil
  | _, _, 0, .cons _ t => .cons r t
  | _, _, n + 1, .cons h t => .cons h (dpAll_set r n t)
theorem dpAll_rev : ∀ {vs : List V} {ds : List D}, DpAll K R vs ds → DpAll K R vs.reverse ds.reverse
  | _, _, .nil => .nil
  | _, _, .cons h t => by rw [List.reverse_cons, List.reverse_cons]; exact dpAll_app (dpAll_rev t) (.cons h .nil)
theorem dpAll_erase : ∀ {vs : List V} {ds : List D} (n : Nat), DpAll K R vs ds → DpAll K R (vs.eraseIdx n) (ds.eraseIdx n)
  | _, _, _, .nil => .nil
  | _, _, 0, .cons _ t => t
  | _, _, n + 1, .cons h t => .cons h (dpAll_erase n t)
theorem dpAll_dropLast {vs : List V} {ds : List D} (h : DpAll K R vs ds) : DpAll K R vs.dropLast ds.dropLast := by
  rw [List.dropLast_eq_take, List.dropLast_eq_take, dpAll_len h]; exact dpAll_take _ h
end

/-! ### what a value is -/
/-- as it is read: a list may be a slot's own -/
def Vr (K : PySem.W.Frag) (R H : Hp) (v : V) : D → Prop
  | .list ds => ∃ a vs, v = .ref a ∧ SqL K H a vs ∧ DpAll K R vs ds
  | d => Dp K R v d
theorem Vr.of {K : PySem.W.Frag} {R H : Hp} {v : V} {d : D} (m : ∀ b o, R b = some o → H b = some o) (h : Dp K R v d) : Vr K R H v d := by
  cases d with
  | list ds => cases h with | lst hs ha => exact ⟨_, _, rfl, sqL_mono m hs, ha⟩
  | none => exact h
  | bool b => exact h
  | int i => exact h
  | str x => exact h
  | tuple ds => exact h
  | dict k => exact h
theorem Vr.dp {K : PySem.W.Frag} {R H : Hp} {v : V} {d : D} (m : ∀ b o, R b = some o → H b = some o) (h : Vr K R H v d) : Dp K H v d := by
  cases d with
  | list ds => obtain ⟨a, vs, rfl, hs, ha⟩ := h; exact .lst hs (dpAll_mono m ds vs ha)
  | none => exact dp_mono m _ _ h
  | bool b => exact dp_mono m _ _ h
  | int i => exact dp_mono m _ _ h
  | str x => exact dp_mono m _ _ h
  | tuple ds => exact dp_mono m _ _ h
  | dict k => exact dp_mono m _ _ h

/-- a result -/
def Rr (K : PySem.W.Frag) (R H : Hp) (O : As) (σ : Sg) (ρ : Rho) (v : V) : Rs → Prop
  | .im d => Dp K R v d
  | .fr ds => ∃ a vs, v = .ref a ∧ O a ∧ H a = some (.lst vs) ∧ DpAll K R vs ds ∧ ∀ (i : Nat) b es, ρ[i]? = some (.ow b es) → σ[i]? ≠ some (some (.ref a))
  | .sl i => ∃ b ds, ρ[i]? = some (.ow b ds) ∧ σ[i]? = some (some v)
/-- a pending operand: data, or a slot's list (or what has become of it) -/
def Op (K : PySem.W.Frag) (R : Hp) (σ : Sg) (v : V) : Rs → Prop
  | .im d => Dp K R v d
  | .fr _ => False
  | .sl i => σ[i]? = some (some v)
def dr (ρ : Rho) : Rs → Option D
  | .im d => some d
  | .fr _ => none
  | .sl i => match ρ[i]? with
    | some (.ow _ ds) => some (.list ds)
    | some (.im d) => some d
    | _ => none
theorem op_vr {p : Pm} {R H : Hp} {O : As} {σ : Sg} {ρ : Rho} (S : Stt p R H O σ ρ) {v : V} {r : Rs} {d : D} (h : Op p.K R σ v r) (e : dr ρ r = some d) : Vr p.K R H v d := by
  cases r with
  | im d' =>
    have e' : d' = d := Option.some.inj e
    subst e'; exact .of S.sub h
  | fr ds => cases h
  | sl i =>
    unfold dr at e
    dsimp only at e
    split at e
    · rename_i b ds q
      cases e
      obtain ⟨a, vs, e1, _, e3, e4⟩ := S.ow i b ds q
      have h' : σ[i]? = some (some v) := h
      rw [e1] at h'; cases h'
      exact ⟨a, vs, rfl, .inl (.inl e3), e4⟩
    · rename_i d' q
      have e7 : d' = d := Option.some.inj e
      subst e7
      obtain ⟨u, e1, e2⟩ := S.im i d' q
      have h' : σ[i]? = some (some v) := h
      rw [e1] at h'; cases h'
      exact .of S.sub e2
    · cases e
theorem Tr.op {K : PySem.W.Frag} {R H R' H' : Hp} {O O' : As} (t : Tr R H O R' H' O') {σ : Sg} {v : V} {r : Rs} (h : Op K R σ v r) : Op K R' σ v r := by
  cases r with
  | im d => exact t.dp h
  | fr _ => exact h
  | sl i => exact h

/-! ### judgements of readings -/
def Good {α β : Type} (p : Pm) (EX : WX) (rel : Hp → Hp → As → Sg → Rho → β → α → Prop) (R H : Hp) (O : As) (σ : Sg) (Q : β → Hp → Prop) : Ou α → Prop
  | .bad => False
  | .ok a ρ' => ∀ b R' H' O', Stt p R' H' O' σ ρ' → Tr R H O R' H' O' → rel R' H' O' σ ρ' b a → Q b H'
  | .ex tag d ρ' => ∀ dx v R' H' O', Stt p R' H' O' σ ρ' → Tr R H O R' H' O' → H dx = none → H' dx = some (.xd [(atS, v)]) → ¬ O' dx → Dp p.K R' v d → EX (.ref (p.xc tag)) (some dx) σ H'
def Sem {α β : Type} (p : Pm) (EX : WX) (rel : Hp → Hp → As → Sg → Rho → β → α → Prop) (t : Sg → Hp → (β → Hp → Prop) → Prop) (F : Rho → Ou α) : Prop :=
  ∀ (R H : Hp) (O : As) (σ : Sg) (ρ : Rho) (Q : β → Hp → Prop), Stt p R H O σ ρ → Good p EX rel R H O σ Q (F ρ) → t σ H Q
abbrev SemE (p : Pm) (EX : WX) : TE → (Rho → Ou Rs) → Prop := Sem p EX (Rr p.K)
abbrev SemP (p : Pm) (EX : WX) : TE → (Rho → Ou Rs) → Prop := Sem p EX (fun R _ _ σ _ v r => Op p.K R σ v r)
abbrev SemT (p : Pm) (EX : WX) : TT → (Rho → Ou Bool) → Prop := Sem p EX (fun _ _ _ _ _ b c => b = c)
def Ops (K : PySem.W.Frag) (R : Hp) (σ : Sg) : List V → List Rs → Prop
  | [], [] => True
  | v :: vs, r :: rs => Op K R σ v r ∧ Ops K R σ vs rs
  | _, _ => False
abbrev SemA (p : Pm) (EX : WX) : TA → (Rho → Ou (List Rs)) → Prop := Sem p EX (fun R _ _ σ _ v r => Ops p.K R σ v r)

def bd {α β : Type} (o : Ou α) (f : α → Rho → Ou β) : Ou β := match o with
  | .bad => .bad
  | .ok a ρ => f a ρ
  | .ex t d ρ => .ex t d ρ
/-- one after the other -/
theorem Sem.bind {α β γ δ : Type} {p : Pm} {EX : WX} {rel : Hp → Hp → As → Sg → Rho → β → α → Prop} {rel2 : Hp → Hp → As → Sg → Rho → δ → γ → Prop} {t : Sg → Hp → (β → Hp → Prop) → Prop} {F : Rho → Ou α}
    {k : β → Sg → Hp → (δ → Hp → Prop) → Prop} {G : α → Rho → Ou γ} (h : Sem p EX rel t F)
    (hk : ∀ R H O σ ρ b a Q, Stt p R H O σ ρ → rel R H O σ ρ b a → Good p EX rel2 R H O σ Q (G a ρ) → k b σ H Q) :
    Sem p EX rel2 (fun σ H Q => t σ H fun b H1 => k b σ H1 Q) (fun ρ => bd (F ρ) G) := by
  intro R H O σ ρ Q S g
  refine h R H O σ ρ _ S ?_
  have g : Good p EX rel2 R H O σ Q (bd (F ρ) G) := g
  cases e : F ρ with
  | bad => rw [e] at g; exact g
  | ok a ρ' =>
    rw [e] at g
    intro b R' H' O' S' T' r'
    refine hk R' H' O' σ ρ' b a Q S' r' ?_
    have g : Good p EX rel2 R H O σ Q (G a ρ') := g
    cases e2 : G a ρ' with
    | bad => rw [e2] at g; exact g
    | ok c ρ2 => rw [e2] at g; exact fun b R2 H2 O2 S2 T2 r2 => g b R2 H2 O2 S2 (T'.trans T2) r2
    | ex tag d ρ2 => rw [e2] at g; exact fun dx v R2 H2 O2 S2 T2 f => g dx v R2 H2 O2 S2 (T'.trans T2) (T'.fresh f)
  | ex tag d ρ' => rw [e] at g; exact g

/-! ### freezing -/
/-- the list at a becomes data -/
theorem freeze {p : Pm} {R H : Hp} {O : As} {σ : Sg} {ρ : Rho} (S : Stt p R H O σ ρ) {a : Addr} {vs : List V} {ds : List D} (oa : O a) (ha : H a = some (.lst vs)) (hd : DpAll p.K R vs ds)
    (un : ∀ (i : Nat) b es, ρ[i]? = some (.ow b es) → σ[i]? ≠ some (some (.ref a))) :
    Stt p (upd R a (.lst vs)) H (fun b => O b ∧ b ≠ a) σ ρ ∧ Tr R H O (upd R a (.lst vs)) H (fun b => O b ∧ b ≠ a) ∧ Dp p.K (upd R a (.lst vs)) (.ref a) (.list ds) := by
  have na : R a = none := S.dis a oa
  have m : ∀ b o, R b = some o → upd R a (.lst vs) b = some o := fun b o e => by rw [upd_ne (ne_of_none e na)]; exact e
  refine ⟨⟨fun b o e => ?_, fun b ob => ?_, fun b ob => S.al b ob.1, S.len, fun i d e => ?_, fun i b es e => ?_, S.pn, S.inj, fun i tag d e => ?_⟩, ⟨m, fun _ _ e _ => e, fun b e => ?_, fun b ob => .inl ob.1, fun _ e => e⟩, .lst (.inl (.inl upd_same)) (dpAll_mono m ds vs hd)⟩
  · by_cases hb : b = a
    · subst hb; rw [upd_same] at e; cases e; exact ha
    · rw [upd_ne hb] at e; exact S.sub b o e
  · rw [upd_ne ob.2]; exact S.dis b ob.1
  · obtain ⟨v, e1, e2⟩ := S.im i d e; exact ⟨v, e1, dp_mono m d v e2⟩
  · obtain ⟨c, ws, e1, e2, e3, e4⟩ := S.ow i b es e
    refine ⟨c, ws, e1, ⟨e2, fun z => ?_⟩, e3, dpAll_mono m es ws e4⟩
    subst z; exact un i b es e e1
  · obtain ⟨e1, e2, dd, v, e3, e4, e5, e6⟩ := S.xn i tag d e
    exact ⟨e1, e2, dd, v, e3, fun z => e4 z.1, e5, dp_mono m d v e6⟩
  · by_cases hb : b = a
    · subst hb; exact .inr (.inr oa)
    · rw [upd_ne hb] at e; exact .inl e
/-- a new list becomes data; the others stay pending -/
def frz (o : Ou Rs) : Ou Rs := bd o fun r ρ => match r with
  | .fr ds => .ok (.im (.list ds)) ρ
  | r => .ok r ρ
theorem SemE.op {p : Pm} {EX : WX} {t : TE} {F : Rho → Ou Rs} (h : SemE p EX t F) : SemP p EX t (fun ρ => frz (F ρ)) := by
  refine Sem.bind (k := fun b _ H Q => Q b H) h fun R H O σ ρ b a Q S r g => ?_
  cases a with
  | im d => exact g b R H O S .refl r
  | fr ds =>
    obtain ⟨a, vs, rfl, oa, ha, hd, un⟩ := r
    obtain ⟨S', T', d'⟩ := freeze S oa ha hd un
    exact g _ _ _ _ S' T' d'
  | sl i => obtain ⟨c, ds, _, e⟩ := r; exact g b R H O S .refl e
/-- a slot's list becomes data -/
def thaw (i : Nat) (ρ : Rho) : Ou D := match ρ[i]? with
  | some (.ow false ds) => .ok (.list ds) (ρ.set i (.im (.list ds)))
  | some (.im d) => .ok d ρ
  | _ => .bad
theorem set_get {α : Type} {l : List α} {i j : Nat} {x y : α} (h : (l.set i x)[j]? = some y) : (i = j ∧ x = y) ∨ (i ≠ j ∧ l[j]? = some y) := by
  by_cases e : i = j
  · subst e
    rw [List.getElem?_set_self'] at h
    cases q : l[i]? with
    | none => rw [q] at h; cases h
    | some z => rw [q] at h; exact .inl ⟨rfl, Option.some.inj h⟩
  · rw [List.getElem?_set_ne e] at h; exact .inr ⟨e, h⟩
/-- a slot forgotten, or made data -/
theorem Stt.put {p : Pm} {R H : Hp} {O : As} {σ : Sg} {ρ : Rho} (S : Stt p R H O σ ρ) {i : Nat} {x : Sl} (hx : x = .un ∨ ∃ d v, x = .im d ∧ σ[i]? = some (some v) ∧ Dp p.K R v d) : Stt p R H O σ (ρ.set i x) := by
  refine ⟨S.sub, S.dis, S.al, by rw [List.length_set]; exact S.len, fun j d e => ?_, fun j b ds e => ?_, fun j y w e hw => ?_, fun j k b c ds es a e1 e2 => ?_, fun j tag d e => ?_⟩
  · rcases set_get e with ⟨rfl, z⟩ | ⟨_, z⟩
    · rcases hx with rfl | ⟨d', v, rfl, h1, h2⟩
      · cases z
      · cases z; exact ⟨v, h1, h2⟩
    · exact S.im j d z
  · rcases set_get e with ⟨rfl, z⟩ | ⟨_, z⟩
    · rcases hx with rfl | ⟨d', v, rfl, _⟩ <;> cases z
    · exact S.ow j b ds z
  · rcases set_get e with ⟨rfl, z⟩ | ⟨_, z⟩
    · rcases hx with rfl | ⟨d', v, rfl, _⟩ <;> (subst z; cases hw)
    · exact S.pn j y w z hw
  · rcases set_get e1 with ⟨rfl, z⟩ | ⟨_, z⟩
    · rcases hx with rfl | ⟨d', v, rfl, _⟩ <;> cases z
    · rcases set_get e2 with ⟨rfl, y⟩ | ⟨_, y⟩
      · rcases hx with rfl | ⟨d', v, rfl, _⟩ <;> cases y
      · exact S.inj j k b c ds es a z y
  · rcases set_get e with ⟨rfl, z⟩ | ⟨_, z⟩
    · rcases hx with rfl | ⟨d', v, rfl, _⟩ <;> cases z
    · exact S.xn j tag d z
theorem thaw_ok {p : Pm} {R H : Hp} {O : As} {σ : Sg} {ρ ρ' : Rho} {i : Nat} {d : D} {v : V} (S : Stt p R H O σ ρ) (e : thaw i ρ = .ok d ρ') (hv : σ[i]? = some (some v)) :
    ∃ R' O', Stt p R' H O' σ ρ' ∧ Tr R H O R' H O' ∧ Dp p.K R' v d := by
  unfold thaw at e
  split at e
  · rename_i ds q
    cases e
    obtain ⟨a, vs, e1, oa, ha, hd⟩ := S.ow i false ds q
    rw [e1] at hv; cases hv
    have S1 : Stt p R H O σ (ρ.set i .un) := S.put (.inl rfl)
    obtain ⟨S', T', d'⟩ := freeze S1 oa ha hd fun j b es z => by
      rcases set_get z with ⟨_, y⟩ | ⟨n, y⟩
      · cases y
      · exact fun z => n (S.inj i j _ _ _ _ a q y e1 z)
    have S2 := S'.put (i := i) (x := .im (.list ds)) (.inr ⟨_, _, rfl, e1, d'⟩)
    rw [List.set_set] at S2
    exact ⟨_, _, S2, T', d'⟩
  · rename_i d' q
    cases e
    obtain ⟨u, e1, e2⟩ := S.im i d q
    rw [e1] at hv; cases hv
    exact ⟨R, O, S, .refl, e2⟩
  · cases e
/-- data for good -/
def dat (r : Rs) (ρ : Rho) : Ou D := match r with
  | .im d => .ok d ρ
  | .fr ds => .bad
  | .sl i => thaw i ρ
abbrev SemD (p : Pm) (EX : WX) : TE → (Rho → Ou D) → Prop := Sem p EX (fun R _ _ _ _ v d => Dp p.K R v d)
theorem thaw_ex {i : Nat} {ρ ρ' : Rho} {t : Nat} {d : D} : thaw i ρ ≠ .ex t d ρ' := by
  unfold thaw; split <;> exact fun z => nomatch z
theorem SemP.dat {p : Pm} {EX : WX} {t : TE} {F : Rho → Ou Rs} (h : SemP p EX t F) : SemD p EX t (fun ρ => bd (F ρ) VL.dat) := by
  refine Sem.bind (k := fun b _ H Q => Q b H) h fun R H O σ ρ b a Q S r g => ?_
  cases a with
  | im d => exact g b R H O S .refl r
  | fr ds => exact r.elim
  | sl i =>
    have g : Good p EX _ R H O σ Q (thaw i ρ) := g
    cases e : thaw i ρ with
    | bad => rw [e] at g; exact g.elim
    | ex t d ρ' => exact (thaw_ex e).elim
    | ok d ρ' =>
      rw [e] at g
      obtain ⟨R', O', S', T', d'⟩ := thaw_ok S e r
      exact g b R' H O' S' T' d'
end VL

namespace VL
open PySem PySem.Spec PyProof.Rows L2

/-! ### growth -/
structure Grow (R H R' H' : Hp) : Prop where
  r : ∀ b o, R b = some o → R' b = some o
  h : ∀ b o, H b = some o → H' b = some o
  s : ∀ b o, R' b = some o → H' b = some o
  n : ∀ b, R' b ≠ none → R b ≠ none ∨ H b = none
theorem Grow.refl {R H : Hp} (m : ∀ b o, R b = some o → H b = some o) : Grow R H R H := ⟨fun _ _ e => e, fun _ _ e => e, m, fun _ e => .inl e⟩
theorem Grow.tup {R H : Hp} {a : Addr} {vs : List V} (m : ∀ b o, R b = some o → H b = some o) (ha : H a = none) : Grow R H (upd R a (.tup vs)) (upd H a (.tup vs)) := by
  have na : R a = none := by
    cases e : R a with
    | none => rfl
    | some o => have := m a o e; rw [ha] at this; cases this
  refine ⟨fun b o e => by rw [upd_ne (ne_of_none e na)]; exact e, fun b o e => by rw [upd_ne (ne_of_none e ha)]; exact e, fun b o e => ?_, fun b e => ?_⟩
  · by_cases hb : b = a
    · subst hb; rw [upd_same] at e ⊢; exact e
    · rw [upd_ne hb] at e ⊢; exact m b o e
  · by_cases hb : b = a
    · subst hb; exact .inr ha
    · rw [upd_ne hb] at e; exact .inl e
theorem Grow.trans {R H R1 H1 R2 H2 : Hp} (a : Grow R H R1 H1) (b : Grow R1 H1 R2 H2) : Grow R H R2 H2 :=
  ⟨fun c o e => b.r c o (a.r c o e), fun c o e => b.h c o (a.h c o e), b.s, fun c e => (b.n c e).elim (a.n c) fun z => .inr (by
    cases q : H c with
    | none => rfl
    | some o => have := a.h c o q; rw [z] at this; cases this)⟩
theorem Stt.grow {p : Pm} {R H R' H' : Hp} {O : As} {σ : Sg} {ρ : Rho} (S : Stt p R H O σ ρ) (g : Grow R H R' H') : Stt p R' H' O σ ρ ∧ Tr R H O R' H' O := by
  refine ⟨⟨g.s, fun b ob => ?_, fun b ob e => ?_, S.len, fun i d e => ?_, fun i b ds e => ?_, S.pn, S.inj, fun i tag d e => ?_⟩, ⟨g.r, fun b o e _ => g.h b o e, fun b e => (g.n b e).imp id .inl, fun b e => .inl e, fun b e z => ?_⟩⟩
  · cases q : R' b with
    | none => rfl
    | some o => exact ((g.n b (by rw [q]; exact fun z => nomatch z)).elim (fun z => z (S.dis b ob)) fun z => S.al b ob z).elim
  · cases q : H b with
    | none => exact S.al b ob q
    | some o => have := g.h b o q; rw [e] at this; cases this
  · obtain ⟨v, e1, e2⟩ := S.im i d e; exact ⟨v, e1, dp_mono g.r d v e2⟩
  · obtain ⟨a, vs, e1, e2, e3, e4⟩ := S.ow i b ds e; exact ⟨a, vs, e1, e2, g.h _ _ e3, dpAll_mono g.r ds vs e4⟩
  · obtain ⟨e1, e2, dd, v, e3, e4, e5, e6⟩ := S.xn i tag d e
    exact ⟨e1, e2, dd, v, e3, e4, g.h _ _ e5, dp_mono g.r d v e6⟩
  · cases q : H b with
    | none => exact e q
    | some o => have := g.h b o q; rw [z] at this; cases this
/-- a new list is laid -/
theorem Stt.laid {p : Pm} {R H : Hp} {O : As} {σ : Sg} {ρ : Rho} (S : Stt p R H O σ ρ) {a : Addr} {o : HO} (ha : H a = none) : Stt p R (upd H a o) (fun b => O b ∨ b = a) σ ρ ∧ Tr R H O R (upd H a o) (fun b => O b ∨ b = a) := by
  have na : R a = none := by
    cases e : R a with
    | none => rfl
    | some o => have := S.sub a o e; rw [ha] at this; cases this
  have k : ∀ b u, H b = some u → upd H a o b = some u := fun b u e => by rw [upd_ne (ne_of_none e ha)]; exact e
  have kn : ∀ b, H b ≠ none → upd H a o b ≠ none := fun b e => by
    cases q : H b with
    | none => exact absurd q e
    | some u => rw [k b u q]; exact fun z => nomatch z
  refine ⟨⟨fun b u e => k b u (S.sub b u e), fun b ob => ?_, fun b ob => ?_, S.len, S.im, fun i b ds e => ?_, S.pn, S.inj, fun i tag d e => ?_⟩, ⟨fun _ _ e => e, fun b u e _ => k b u e, fun b e => .inl e, fun b ob => ob.imp id fun z => by subst z; exact ha, kn⟩⟩
  · rcases ob with ob | rfl
    · exact S.dis b ob
    · exact na
  · rcases ob with ob | rfl
    · exact kn b (S.al b ob)
    · rw [upd_same]; exact fun z => nomatch z
  · obtain ⟨c, vs, e1, e2, e3, e4⟩ := S.ow i b ds e; exact ⟨c, vs, e1, .inl e2, k _ _ e3, e4⟩
  · obtain ⟨e1, e2, dd, v, e3, e4, e5, e6⟩ := S.xn i tag d e
    exact ⟨e1, e2, dd, v, e3, (fun z => z.elim e4 (fun z => by subst z; rw [ha] at e5; cases e5)), k _ _ e5, e6⟩
/-- what comes of an operation: data, or a new list -/
def Out (K : PySem.W.Frag) (R H : Hp) (Q : VK) : Rs → Prop
  | .im d => ∀ v R' H', Grow R H R' H' → Dp K R' v d → Q v H'
  | .fr ds => ∀ a vs, H a = none → DpAll K R vs ds → Q (.ref a) (upd H a (.lst vs))
  | .sl _ => False
theorem out_of {p : Pm} {EX : WX} {R H : Hp} {O : As} {σ : Sg} {ρ : Rho} {Q : VK} {z : Rs} (S : Stt p R H O σ ρ) (hz : ∀ i, z ≠ .sl i) (g : Good p EX (Rr p.K) R H O σ Q (.ok z ρ)) : Out p.K R H Q z := by
  cases z with
  | im d =>
    intro v R' H' gr h
    obtain ⟨S', T'⟩ := S.grow gr
    exact g v R' H' O S' T' h
  | fr ds =>
    intro a vs ha hd
    obtain ⟨S', T'⟩ := S.laid (o := .lst vs) ha
    refine g _ _ _ _ S' T' ⟨a, vs, rfl, .inr rfl, upd_same, hd, fun i b es e e2 => ?_⟩
    obtain ⟨c, ws, e1, e3, e4, _⟩ := S.ow i b es e
    rw [e1] at e2; cases e2
    rw [ha] at e4; cases e4
  | sl i => exact absurd rfl (hz i)

/-! ### names, constants -/
def varF (i : Nat) : Rho → Ou Rs := fun ρ => match ρ[i]? with
  | some (.im d) => .ok (.im d) ρ
  | some (.ow _ _) => .ok (.sl i) ρ
  | _ => .bad
theorem sem_var {p : Pm} {EX : WX} (i : Nat) : SemE p EX (tVar i) (varF i) := by
  intro R H O σ ρ Q S g
  unfold varF at g
  split at g
  · rename_i d e
    obtain ⟨v, e1, h⟩ := S.im i d e
    exact ⟨v, e1, g v R H O S .refl h⟩
  · rename_i b ds e
    obtain ⟨a, vs, e1, _⟩ := S.ow i b ds e
    exact ⟨_, e1, g _ R H O S .refl ⟨b, ds, e, e1⟩⟩
  · exact g.elim
def cF (d : D) : Rho → Ou Rs := fun ρ => .ok (.im d) ρ
theorem sem_c {p : Pm} {EX : WX} {v : V} {d : D} (h : ∀ R, Dp p.K R v d) : SemE p EX (tC v) (cF d) := fun R H O σ ρ Q S g => g v R H O S .refl (h R)
theorem sem_int {p : Pm} {EX : WX} (i : Int) : SemE p EX (tC (.int i)) (cF (.int i)) := sem_c fun _ => .int i
theorem sem_bl {p : Pm} {EX : WX} (b : Bool) : SemE p EX (tC (.bl b)) (cF (.bool b)) := sem_c fun _ => .bl b
theorem sem_non {p : Pm} {EX : WX} : SemE p EX (tC .non) (cF .none) := sem_c fun _ => .non
theorem sem_str {p : Pm} {EX : WX} (x : Str) : SemE p EX (tC (.str x)) (cF (.str x)) := sem_c fun _ => .str x

/-! ### operations by values -/
def OpV (K : PySem.W.Frag) (r : R2) (f : D → D → Option Rs) : Prop := ∀ (R H : Hp) (v u : V) (d e : D) (z : Rs) (Q : VK), (∀ b o, R b = some o → H b = some o) → Vr K R H v d → Vr K R H u e → f d e = some z → Out K R H Q z → r v u H Q
def UnV (K : PySem.W.Frag) (r : V → Hp → VK → Prop) (f : D → Option Rs) : Prop := ∀ (R H : Hp) (v : V) (d : D) (z : Rs) (Q : VK), (∀ b o, R b = some o → H b = some o) → Vr K R H v d → f d = some z → Out K R H Q z → r v H Q
def Vrs (K : PySem.W.Frag) (R H : Hp) : List V → List D → Prop
  | [], [] => True
  | v :: vs, d :: ds => Vr K R H v d ∧ Vrs K R H vs ds
  | _, _ => False
def CallV (K : PySem.W.Frag) (r : List V → Hp → VK → Prop) (f : List D → Option Rs) : Prop := ∀ (R H : Hp) (vs : List V) (ds : List D) (z : Rs) (Q : VK), (∀ b o, R b = some o → H b = some o) → Vrs K R H vs ds → f ds = some z → Out K R H Q z → r vs H Q
/-- an operation's end: never a slot -/
def fin (z : Option Rs) (ρ : Rho) : Ou Rs := match z with
  | some (.im d) => .ok (.im d) ρ
  | some (.fr ds) => .ok (.fr ds) ρ
  | _ => .bad
theorem fin_ok {p : Pm} {EX : WX} {R H : Hp} {O : As} {σ : Sg} {ρ : Rho} {Q : VK} {z : Option Rs} (S : Stt p R H O σ ρ) (g : Good p EX (Rr p.K) R H O σ Q (fin z ρ)) : ∃ y, z = some y ∧ Out p.K R H Q y := by
  unfold fin at g
  split at g
  · exact ⟨_, rfl, out_of S (fun _ z => nomatch z) g⟩
  · exact ⟨_, rfl, out_of S (fun _ z => nomatch z) g⟩
  · exact g.elim
def op2 (f : D → D → Option Rs) (r1 r2 : Rs) (ρ : Rho) : Ou Rs := match dr ρ r1, dr ρ r2 with
  | some d, some e => fin (f d e) ρ
  | _, _ => .bad
def opF (f : D → D → Option Rs) (Fa Fb : Rho → Ou Rs) : Rho → Ou Rs := fun ρ => bd (frz (Fa ρ)) fun r1 ρ1 => bd (frz (Fb ρ1)) fun r2 ρ2 => op2 f r1 r2 ρ2
theorem sem_op {p : Pm} {EX : WX} {ta tb : TE} {Fa Fb : Rho → Ou Rs} {r : R2} {f : D → D → Option Rs} (hf : OpV p.K r f) (ha : SemE p EX ta Fa) (hb : SemE p EX tb Fb) : SemE p EX (tOp r ta tb) (opF f Fa Fb) := by
  refine Sem.bind (k := fun x σ H Q => tb σ H fun y H2 => r x y H2 Q) (G := fun r1 ρ1 => bd (frz (Fb ρ1)) fun r2 ρ2 => op2 f r1 r2 ρ2) ha.op fun R H O σ ρ v a Q S hv g => ?_
  have hb' := hb.op R H O σ ρ (fun y H2 => r v y H2 Q) S
  refine hb' ?_
  show Good p EX _ R H O σ _ (frz (Fb ρ))
  have g : Good p EX (Rr p.K) R H O σ Q (bd (frz (Fb ρ)) fun r2 ρ2 => op2 f a r2 ρ2) := g
  cases e : frz (Fb ρ) with
  | bad => rw [e] at g; exact g
  | ex t d ρ' => rw [e] at g; exact g
  | ok c ρ2 =>
    rw [e] at g
    intro u R2 H2 O2 S2 T2 hu
    have g : Good p EX (Rr p.K) R H O σ Q (op2 f a c ρ2) := g
    unfold op2 at g
    split at g
    · rename_i d1 d2 e1 e2
      have g2 : Good p EX (Rr p.K) R2 H2 O2 σ Q (fin (f d1 d2) ρ2) := by
        cases q : fin (f d1 d2) ρ2 with
        | bad => rw [q] at g; exact g
        | ok z ρ3 => rw [q] at g; exact fun b R3 H3 O3 S3 T3 h3 => g b R3 H3 O3 S3 (T2.trans T3) h3
        | ex t d ρ3 => rw [q] at g; exact fun dx w R3 H3 O3 S3 T3 f => g dx w R3 H3 O3 S3 (T2.trans T3) (T2.fresh f)
      obtain ⟨z, ez, oz⟩ := fin_ok S2 g2
      exact hf R2 H2 v u d1 d2 z Q S2.sub (op_vr S2 (T2.op hv) e1) (op_vr S2 hu e2) ez oz
    · exact g.elim
def op1 (f : D → Option Rs) (r1 : Rs) (ρ : Rho) : Ou Rs := match dr ρ r1 with
  | some d => fin (f d) ρ
  | _ => .bad
def unF (f : D → Option Rs) (Fa : Rho → Ou Rs) : Rho → Ou Rs := fun ρ => bd (frz (Fa ρ)) (op1 f)
theorem sem_un {p : Pm} {EX : WX} {ta : TE} {Fa : Rho → Ou Rs} {r : V → Hp → VK → Prop} {f : D → Option Rs} (hf : UnV p.K r f) (ha : SemE p EX ta Fa) : SemE p EX (fun σ H Q => ta σ H fun x H1 => r x H1 Q) (unF f Fa) := by
  refine Sem.bind (k := fun x σ H Q => r x H Q) (G := op1 f) ha.op fun R H O σ ρ v a Q S hv g => ?_
  unfold op1 at g
  split at g
  · rename_i d e
    obtain ⟨z, ez, oz⟩ := fin_ok S g
    exact hf R H v d z Q S.sub (op_vr S hv e) ez oz
  · exact g.elim

/-! ### argument lists -/
def nilF : Rho → Ou (List Rs) := fun ρ => .ok [] ρ
def consF (Fa : Rho → Ou Rs) (Fr : Rho → Ou (List Rs)) : Rho → Ou (List Rs) := fun ρ => bd (frz (Fa ρ)) fun r1 ρ1 => bd (Fr ρ1) fun rs ρ2 => .ok (r1 :: rs) ρ2
theorem Good.tr {α β : Type} {p : Pm} {EX : WX} {rel : Hp → Hp → As → Sg → Rho → β → α → Prop} {R H R2 H2 : Hp} {O O2 : As} {σ : Sg} {Q : β → Hp → Prop} {o : Ou α} (T : Tr R H O R2 H2 O2) (g : Good p EX rel R H O σ Q o) : Good p EX rel R2 H2 O2 σ Q o := by
  cases o with
  | bad => exact g
  | ok a ρ => exact fun b R3 H3 O3 S3 T3 h3 => g b R3 H3 O3 S3 (T.trans T3) h3
  | ex t d ρ => exact fun dx w R3 H3 O3 S3 T3 f => g dx w R3 H3 O3 S3 (T.trans T3) (T.fresh f)
theorem sem_nil {p : Pm} {EX : WX} : SemA p EX tNil nilF := fun R H O σ ρ Q S g => g [] R H O S .refl True.intro
theorem ops_tr {K : PySem.W.Frag} {R H R' H' : Hp} {O O' : As} (t : Tr R H O R' H' O') {σ : Sg} : ∀ {vs : List V} {rs : List Rs}, Ops K R σ vs rs → Ops K R' σ vs rs
  | [], [], _ => True.intro
  | _ :: _, _ :: _, h => ⟨t.op h.1, ops_tr t h.2⟩
  | [], _ :: _, h => h.elim
  | _ :: _, [], h => h.elim
theorem sem_cons {p : Pm} {EX : WX} {ta : TE} {tr : TA} {Fa : Rho → Ou Rs} {Fr : Rho → Ou (List Rs)} (ha : SemE p EX ta Fa) (hr : SemA p EX tr Fr) : SemA p EX (tCons ta tr) (consF Fa Fr) := by
  refine Sem.bind (k := fun x σ H Q => tr σ H fun xs H2 => Q (x :: xs) H2) (G := fun r1 ρ1 => bd (Fr ρ1) fun rs ρ2 => .ok (r1 :: rs) ρ2) ha.op fun R H O σ ρ v a Q S hv g => ?_
  refine hr R H O σ ρ _ S ?_
  have g : Good p EX _ R H O σ Q (bd (Fr ρ) fun rs ρ2 => .ok (a :: rs) ρ2) := g
  cases e : Fr ρ with
  | bad => rw [e] at g; exact g
  | ex t d ρ' => rw [e] at g; exact g
  | ok rs ρ2 => rw [e] at g; exact fun vs R2 H2 O2 S2 T2 h2 => g (v :: vs) R2 H2 O2 S2 T2 ⟨T2.op hv, h2⟩
def drs (ρ : Rho) : List Rs → Option (List D)
  | [] => some []
  | r :: rs => match dr ρ r, drs ρ rs with
    | some d, some ds => some (d :: ds)
    | _, _ => none
theorem ops_vrs {p : Pm} {R H : Hp} {O : As} {σ : Sg} {ρ : Rho} (S : Stt p R H O σ ρ) : ∀ {vs : List V} {rs : List Rs} {ds : List D}, Ops p.K R σ vs rs → drs ρ rs = some ds → Vrs p.K R H vs ds
  | [], [], ds, _, e => by cases Option.some.inj e; exact True.intro
  | v :: vs, r :: rs, ds, h, e => by
    unfold drs at e
    split at e
    · rename_i d es e1 e2
      cases Option.some.inj e
      exact ⟨op_vr S h.1 e1, ops_vrs S h.2 e2⟩
    · cases e
  | [], _ :: _, _, h, _ => h.elim
  | _ :: _, [], _, h, _ => h.elim
def call1 (f : List D → Option Rs) (rs : List Rs) (ρ : Rho) : Ou Rs := match drs ρ rs with
  | some ds => fin (f ds) ρ
  | none => .bad
def callF (f : List D → Option Rs) (F : Rho → Ou (List Rs)) : Rho → Ou Rs := fun ρ => bd (F ρ) (call1 f)
theorem sem_call {p : Pm} {EX : WX} {t : TA} {F : Rho → Ou (List Rs)} {r : List V → Hp → VK → Prop} {f : List D → Option Rs} (hf : CallV p.K r f) (h : SemA p EX t F) : SemE p EX (tCB r t) (callF f F) := by
  refine Sem.bind (k := fun vs σ H Q => r vs H Q) (G := call1 f) h fun R H O σ ρ v a Q S hv g => ?_
  unfold call1 at g
  split at g
  · rename_i ds e
    obtain ⟨z, ez, oz⟩ := fin_ok S g
    exact hf R H v ds z Q S.sub (ops_vrs S hv e) ez oz
  · exact g.elim
/-- arguments as data for good -/
abbrev SemAD (p : Pm) (EX : WX) : TA → (Rho → Ou (List D)) → Prop := Sem p EX (fun R _ _ _ _ vs ds => DpAll p.K R vs ds)
def consD (Fa : Rho → Ou Rs) (Fr : Rho → Ou (List D)) : Rho → Ou (List D) := fun ρ => bd (bd (frz (Fa ρ)) dat) fun d ρ1 => bd (Fr ρ1) fun ds ρ2 => .ok (d :: ds) ρ2
def nilD : Rho → Ou (List D) := fun ρ => .ok [] ρ
theorem sem_nilD {p : Pm} {EX : WX} : SemAD p EX tNil nilD := fun R H O σ ρ Q S g => g [] R H O S .refl .nil
theorem sem_consD {p : Pm} {EX : WX} {ta : TE} {tr : TA} {Fa : Rho → Ou Rs} {Fr : Rho → Ou (List D)} (ha : SemE p EX ta Fa) (hr : SemAD p EX tr Fr) : SemAD p EX (tCons ta tr) (consD Fa Fr) := by
  refine Sem.bind (k := fun x σ H Q => tr σ H fun xs H2 => Q (x :: xs) H2) (G := fun r1 ρ1 => bd (Fr ρ1) fun rs ρ2 => .ok (r1 :: rs) ρ2) ha.op.dat fun R H O σ ρ v a Q S hv g => ?_
  refine hr R H O σ ρ _ S ?_
  have g : Good p EX _ R H O σ Q (bd (Fr ρ) fun rs ρ2 => .ok (a :: rs) ρ2) := g
  cases e : Fr ρ with
  | bad => rw [e] at g; exact g
  | ex t d ρ' => rw [e] at g; exact g
  | ok rs ρ2 => rw [e] at g; exact fun vs R2 H2 O2 S2 T2 h2 => g (v :: vs) R2 H2 O2 S2 T2 (.cons (T2.dp hv) h2)
/-- displays -/
def tupD (ds : List D) (ρ : Rho) : Ou Rs := if ds.length ≤ sizeLine then .ok (.im (.tuple ds)) ρ else .bad
def lstD (ds : List D) (ρ : Rho) : Ou Rs := if ds.length ≤ sizeLine then .ok (.fr ds) ρ else .bad
def tupF (F : Rho → Ou (List D)) : Rho → Ou Rs := fun ρ => bd (F ρ) tupD
def lstF (F : Rho → Ou (List D)) : Rho → Ou Rs := fun ρ => bd (F ρ) lstD
theorem sem_tup {p : Pm} {EX : WX} {t : TA} {F : Rho → Ou (List D)} (h : SemAD p EX t F) : SemE p EX (tTup t) (tupF F) := by
  refine Sem.bind (k := fun xs σ H (Q : VK) => xs.length ≤ sizeLine ∧ ∀ a, H a = none → Q (V.ref a) (upd H a (.tup xs))) (G := tupD) h fun R H O σ ρ vs ds Q S hv g => ?_
  unfold tupD at g
  split at g
  · rename_i hz
    refine ⟨by rw [dpAll_len hv]; exact hz, fun a ha => ?_⟩
    exact out_of (z := .im (.tuple ds)) S (fun _ z => nomatch z) g _ _ _ (.tup S.sub ha) (.tup (.inl (.inl upd_same)) (dpAll_mono (Grow.tup S.sub ha).r ds vs hv))
  · exact g.elim
theorem sem_lst {p : Pm} {EX : WX} {t : TA} {F : Rho → Ou (List D)} (h : SemAD p EX t F) : SemE p EX (tLst t) (lstF F) := by
  refine Sem.bind (k := fun xs σ H (Q : VK) => xs.length ≤ sizeLine ∧ ∀ a, H a = none → Q (V.ref a) (upd H a (.lst xs))) (G := lstD) h fun R H O σ ρ vs ds Q S hv g => ?_
  unfold lstD at g
  split at g
  · rename_i hz
    exact ⟨by rw [dpAll_len hv]; exact hz, fun a ha => out_of (z := .fr ds) S (fun _ z => nomatch z) g a vs ha hv⟩
  · exact g.elim

/-! ### tests -/
def blO (r : Rs) (ρ : Rho) : Ou Bool := match r with
  | .im (.bool b) => .ok b ρ
  | _ => .bad
def tstF (F : Rho → Ou Rs) : Rho → Ou Bool := fun ρ => bd (F ρ) blO
theorem sem_tst {p : Pm} {EX : WX} {t : TE} {F : Rho → Ou Rs} (h : SemE p EX t F) : SemT p EX (fun σ H Q => t σ H fun x H' => ∃ k, x = .bl k ∧ Q k H') (tstF F) := by
  refine Sem.bind (k := fun x σ H Q => ∃ k, x = .bl k ∧ Q k H) (G := blO) h fun R H O σ ρ v a Q S hv g => ?_
  unfold blO at g
  split at g
  · rename_i b
    have hv : Dp p.K R v (.bool b) := hv
    cases hv
    exact ⟨b, rfl, g b R H O S .refl rfl⟩
  · exact g.elim
def tru : D → Option Bool
  | .none => some false
  | .bool b => some b
  | .int i => some (i != 0)
  | .str x => if x.length ≤ sizeLine then some ((x.length : Int) != 0) else none
  | .list ds => some (!ds.isEmpty)
  | .tuple ds => some (!ds.isEmpty)
  | .dict _ => none
theorem isE {K : PySem.W.Frag} {R : Hp} : ∀ {vs : List V} {ds : List D}, DpAll K R vs ds → vs.isEmpty = ds.isEmpty
  | _, _, .nil => rfl
  | _, _, .cons _ _ => rfl
theorem tru_v {K : PySem.W.Frag} {R H : Hp} {v : V} {d : D} {b : Bool} (m : ∀ b o, R b = some o → H b = some o) (h : Vr K R H v d) (e : tru d = some b) : TruV K v H b := by
  cases d with
  | none => cases h; exact (Option.some.inj e).symm
  | bool c => cases h; exact (Option.some.inj e).symm
  | int i => cases h; exact (Option.some.inj e).symm
  | str x =>
    cases h
    unfold tru at e
    dsimp only at e
    split at e
    · rename_i hz; exact ⟨hz, (Option.some.inj e).symm⟩
    · cases e
  | list ds =>
    obtain ⟨a, vs, rfl, hs, hd⟩ := h
    exact .inl ⟨vs, hs, by rw [isE hd]; exact (Option.some.inj e).symm⟩
  | tuple ds =>
    have h : Dp K R v (.tuple ds) := h
    cases h with
    | tup hs hd => exact .inr (.inl ⟨_, sqT_mono m hs, by rw [isE hd]; exact (Option.some.inj e).symm⟩)
  | dict k => cases e
def truO (r : Rs) (ρ : Rho) : Ou Bool := match (dr ρ r).bind tru with
  | some b => .ok b ρ
  | none => .bad
def truF (F : Rho → Ou Rs) : Rho → Ou Bool := fun ρ => bd (frz (F ρ)) truO
theorem sem_tru {p : Pm} {EX : WX} {t : TE} {F : Rho → Ou Rs} (h : SemE p EX t F) : SemT p EX (fun σ H Q => t σ H fun x H' => ∃ k, TruV p.K x H' k ∧ Q k H') (truF F) := by
  refine Sem.bind (k := fun x σ H Q => ∃ k, TruV p.K x H k ∧ Q k H) (G := truO) h.op fun R H O σ ρ v a Q S hv g => ?_
  unfold truO at g
  split at g
  · rename_i b e
    obtain ⟨d, e1, e2⟩ := Option.bind_eq_some_iff.mp e
    exact ⟨b, tru_v S.sub (op_vr S hv e1) e2, g b R H O S .refl rfl⟩
  · exact g.elim
def andF (F G : Rho → Ou Bool) : Rho → Ou Bool := fun ρ => bd (F ρ) fun b ρ1 => if b = true then G ρ1 else .ok false ρ1
def orF (F G : Rho → Ou Bool) : Rho → Ou Bool := fun ρ => bd (F ρ) fun b ρ1 => if b = true then .ok true ρ1 else G ρ1
def notF (F : Rho → Ou Bool) : Rho → Ou Bool := fun ρ => bd (F ρ) fun b ρ1 => .ok (!b) ρ1
theorem sem_and {p : Pm} {EX : WX} {t u : TT} {F G : Rho → Ou Bool} (h : SemT p EX t F) (k : SemT p EX u G) : SemT p EX (tAnd t u) (andF F G) := by
  refine Sem.bind (k := fun c σ H Q => if c = true then u σ H Q else Q false H) (G := fun b ρ1 => if b = true then G ρ1 else .ok false ρ1) h fun R H O σ ρ v a Q S hv g => ?_
  subst hv
  cases v with
  | true => exact k R H O σ ρ Q S g
  | false => exact g false R H O S .refl rfl
theorem sem_or {p : Pm} {EX : WX} {t u : TT} {F G : Rho → Ou Bool} (h : SemT p EX t F) (k : SemT p EX u G) : SemT p EX (tOr t u) (orF F G) := by
  refine Sem.bind (k := fun c σ H Q => if c = true then Q true H else u σ H Q) (G := fun b ρ1 => if b = true then .ok true ρ1 else G ρ1) h fun R H O σ ρ v a Q S hv g => ?_
  subst hv
  cases v with
  | false => exact k R H O σ ρ Q S g
  | true => exact g true R H O S .refl rfl
theorem sem_not {p : Pm} {EX : WX} {t : TT} {F : Rho → Ou Bool} (h : SemT p EX t F) : SemT p EX (tNot t) (notF F) := by
  refine Sem.bind (k := fun c σ H Q => Q (!c) H) (G := fun b ρ1 => .ok (!b) ρ1) h fun R H O σ ρ v a Q S hv g => ?_
  subst hv
  exact g (!v) R H O S .refl rfl
/-- tests as values -/
def andV (F G : Rho → Ou Rs) : Rho → Ou Rs := fun ρ => bd (tstF F ρ) fun b ρ1 => if b = true then G ρ1 else .ok (.im (.bool false)) ρ1
def orV (F G : Rho → Ou Rs) : Rho → Ou Rs := fun ρ => bd (tstF F ρ) fun b ρ1 => if b = true then .ok (.im (.bool true)) ρ1 else G ρ1
def notV (F : Rho → Ou Rs) : Rho → Ou Rs := fun ρ => bd (tstF F ρ) fun b ρ1 => .ok (.im (.bool (!b))) ρ1
theorem tst_k {t : TE} {σ : Sg} {H : Hp} {Q : VK} {k : Bool → Sg → Hp → VK → Prop} (h : (fun σ H (Q : Bool → Hp → Prop) => t σ H fun x H' => ∃ k, x = .bl k ∧ Q k H') σ H (fun b H1 => k b σ H1 Q)) : t σ H fun x H1 => ∃ c, x = .bl c ∧ k c σ H1 Q := h
theorem sem_andV {p : Pm} {EX : WX} {t u : TE} {F G : Rho → Ou Rs} (h : SemE p EX t F) (k : SemE p EX u G) : SemE p EX (tAndV t u) (andV F G) := by
  refine Sem.bind (k := fun c σ H (Q : VK) => if c = true then u σ H Q else Q (V.bl false) H) (G := fun b ρ1 => if b = true then G ρ1 else .ok (.im (.bool false)) ρ1) (sem_tst h) fun R H O σ ρ v a Q S hv g => ?_
  subst hv
  cases v with
  | true => exact k R H O σ ρ Q S g
  | false => exact g _ R H O S .refl (.bl false)
theorem sem_orV {p : Pm} {EX : WX} {t u : TE} {F G : Rho → Ou Rs} (h : SemE p EX t F) (k : SemE p EX u G) : SemE p EX (tOrV t u) (orV F G) := by
  refine Sem.bind (k := fun c σ H (Q : VK) => if c = true then Q (V.bl true) H else u σ H Q) (G := fun b ρ1 => if b = true then .ok (.im (.bool true)) ρ1 else G ρ1) (sem_tst h) fun R H O σ ρ v a Q S hv g => ?_
  subst hv
  cases v with
  | false => exact k R H O σ ρ Q S g
  | true => exact g _ R H O S .refl (.bl true)
theorem sem_notV {p : Pm} {EX : WX} {t : TE} {F : Rho → Ou Rs} (h : SemE p EX t F) : SemE p EX (tNotV t) (notV F) := by
  refine Sem.bind (k := fun c σ H (Q : VK) => Q (V.bl (!c)) H) (G := fun b ρ1 => .ok (Rs.im (.bool (!b))) ρ1) (sem_tst h) fun R H O σ ρ v a Q S hv g => ?_
  subst hv
  exact g _ R H O S .refl (.bl (!v))
def ifF (C : Rho → Ou Bool) (F G : Rho → Ou Rs) : Rho → Ou Rs := fun ρ => bd (C ρ) fun b ρ1 => if b = true then F ρ1 else G ρ1
theorem sem_if {p : Pm} {EX : WX} {c : TT} {t u : TE} {C : Rho → Ou Bool} {F G : Rho → Ou Rs} (hc : SemT p EX c C) (h : SemE p EX t F) (k : SemE p EX u G) : SemE p EX (tIf c t u) (ifF C F G) := by
  refine Sem.bind (k := fun c σ H Q => if c = true then t σ H Q else u σ H Q) (G := fun b ρ1 => if b = true then F ρ1 else G ρ1) hc fun R H O σ ρ v a Q S hv g => ?_
  subst hv
  cases v with
  | true => exact h R H O σ ρ Q S g
  | false => exact k R H O σ ρ Q S g
/-- x is None -/
def isNon : D → Bool
  | .none => true
  | _ => false
theorem non_iff {K : PySem.W.Frag} {R H : Hp} {v : V} {d : D} (h : Vr K R H v d) : decide (v = .non) = isNon d := by
  cases d with
  | none => cases h; rfl
  | bool c => cases h; rfl
  | int i => cases h; rfl
  | str x => cases h; rfl
  | list ds => obtain ⟨a, vs, rfl, _⟩ := h; rfl
  | tuple ds => have h : Dp K R v (.tuple ds) := h; cases h; rfl
  | dict k => have h : Dp K R v (.dict k) := h; cases h
def isnD (neg : Bool) (d : D) : Option Rs := some (.im (.bool (if neg then !isNon d else isNon d)))
theorem sem_isN {p : Pm} {EX : WX} {t : TE} {F : Rho → Ou Rs} (h : SemE p EX t F) : SemE p EX (tIsN t) (unF (isnD false) F) :=
  sem_un (r := fun x H Q => Q (.bl (decide (x = .non))) H) (fun R H v d z Q m hv e o => by
    cases Option.some.inj e
    rw [non_iff hv]
    exact o _ R H (.refl m) (.bl _)) h
theorem sem_notN {p : Pm} {EX : WX} {t : TE} {F : Rho → Ou Rs} (h : SemE p EX t F) : SemE p EX (tNotN t) (unF (isnD true) F) :=
  sem_un (r := fun x H Q => Q (.bl (!decide (x = .non))) H) (fun R H v d z Q m hv e o => by
    cases Option.some.inj e
    rw [non_iff hv]
    exact o _ R H (.refl m) (.bl _)) h
end VL

namespace VL
open PySem PySem.Spec PyProof.Rows L2

/-! ### statements -/
inductive So where
  | bad
  | nx (r : Rho)
  | rt (v : Rs) (r : Rho)
  | bk (r : Rho)
  | ct (r : Rho)
  | ex (tag : Nat) (d : D) (r : Rho)
def GoodS (p : Pm) (EX : WX) (R H : Hp) (O : As) (E : Ends) : So → Prop
  | .bad => False
  | .nx ρ' => ∀ σ' R' H' O', Stt p R' H' O' σ' ρ' → Tr R H O R' H' O' → E.nx σ' H'
  | .rt r ρ' => ∀ v σ' R' H' O', Stt p R' H' O' σ' ρ' → Tr R H O R' H' O' → Rr p.K R' H' O' σ' ρ' v r → E.rt v H'
  | .bk ρ' => ∀ σ' R' H' O', Stt p R' H' O' σ' ρ' → Tr R H O R' H' O' → E.bk σ' H'
  | .ct ρ' => ∀ σ' R' H' O', Stt p R' H' O' σ' ρ' → Tr R H O R' H' O' → E.ct σ' H'
  | .ex tag d ρ' => ∀ dx v σ' R' H' O', Stt p R' H' O' σ' ρ' → Tr R H O R' H' O' → H dx = none → H' dx = some (.xd [(atS, v)]) → ¬ O' dx → Dp p.K R' v d → EX (.ref (p.xc tag)) (some dx) σ' H'
theorem GoodS.tr {p : Pm} {EX : WX} {R H R2 H2 : Hp} {O O2 : As} {E : Ends} {o : So} (T : Tr R H O R2 H2 O2) (g : GoodS p EX R H O E o) : GoodS p EX R2 H2 O2 E o := by
  cases o with
  | bad => exact g
  | nx ρ => exact fun σ' R3 H3 O3 S3 T3 => g σ' R3 H3 O3 S3 (T.trans T3)
  | rt r ρ => exact fun v σ' R3 H3 O3 S3 T3 => g v σ' R3 H3 O3 S3 (T.trans T3)
  | bk ρ => exact fun σ' R3 H3 O3 S3 T3 => g σ' R3 H3 O3 S3 (T.trans T3)
  | ct ρ => exact fun σ' R3 H3 O3 S3 T3 => g σ' R3 H3 O3 S3 (T.trans T3)
  | ex t d ρ => exact fun dx w σ' R3 H3 O3 S3 T3 f => g dx w σ' R3 H3 O3 S3 (T.trans T3) (T.fresh f)
def SemS (p : Pm) (EX : WX) (t : TS) (G : Rho → So) : Prop := ∀ (R H : Hp) (O : As) (σ : Sg) (ρ : Rho) (E : Ends), Stt p R H O σ ρ → GoodS p EX R H O E (G ρ) → t E σ H
/-- from an expression to a statement -/
def bs {α : Type} (o : Ou α) (f : α → Rho → So) : So := match o with
  | .bad => .bad
  | .ok a ρ => f a ρ
  | .ex t d ρ => .ex t d ρ
theorem Sem.stm {α β : Type} {p : Pm} {EX : WX} {rel : Hp → Hp → As → Sg → Rho → β → α → Prop} {t : Sg → Hp → (β → Hp → Prop) → Prop} {F : Rho → Ou α} {k : β → TS} {G : α → Rho → So} (h : Sem p EX rel t F)
    (hk : ∀ R H O σ ρ b a E, Stt p R H O σ ρ → rel R H O σ ρ b a → GoodS p EX R H O E (G a ρ) → k b E σ H) : SemS p EX (fun E σ H => t σ H fun b H1 => k b E σ H1) (fun ρ => bs (F ρ) G) := by
  intro R H O σ ρ E S g
  refine h R H O σ ρ _ S ?_
  have g : GoodS p EX R H O E (bs (F ρ) G) := g
  cases e : F ρ with
  | bad => rw [e] at g; exact g
  | ok a ρ' => rw [e] at g; exact fun b R' H' O' S' T' r' => hk R' H' O' σ ρ' b a E S' r' (g.tr T')
  | ex tag d ρ' => rw [e] at g; exact fun dx v R2 H2 O2 S2 T2 => g dx v σ R2 H2 O2 S2 T2
def seqS (F G : Rho → So) : Rho → So := fun ρ => match F ρ with
  | .nx ρ' => G ρ'
  | o => o
theorem sem_seq {p : Pm} {EX : WX} {t u : TS} {F G : Rho → So} (h : SemS p EX t F) (k : SemS p EX u G) : SemS p EX (tSeq t u) (seqS F G) := by
  intro R H O σ ρ E S g
  refine h R H O σ ρ _ S ?_
  have g : GoodS p EX R H O E (match F ρ with | .nx ρ' => G ρ' | o => o) := g
  cases e : F ρ with
  | nx ρ' => rw [e] at g; exact fun σ' R' H' O' S' T' => k R' H' O' σ' ρ' E S' (g.tr T')
  | bad => rw [e] at g; exact g
  | rt r ρ' => rw [e] at g; exact g
  | bk ρ' => rw [e] at g; exact g
  | ct ρ' => rw [e] at g; exact g
  | ex t d ρ' => rw [e] at g; exact g
def nxS : Rho → So := fun ρ => .nx ρ
theorem sem_next {p : Pm} {EX : WX} : SemS p EX tNext nxS := fun R H O σ ρ E S g => g σ R H O S .refl
theorem sem_break {p : Pm} {EX : WX} : SemS p EX tBreak (fun ρ => .bk ρ) := fun R H O σ ρ E S g => g σ R H O S .refl
theorem sem_cont {p : Pm} {EX : WX} : SemS p EX tCont (fun ρ => .ct ρ) := fun R H O σ ρ E S g => g σ R H O S .refl
def retS (F : Rho → Ou Rs) : Rho → So := fun ρ => bs (F ρ) fun r ρ' => .rt r ρ'
theorem sem_ret {p : Pm} {EX : WX} {t : TE} {F : Rho → Ou Rs} (h : SemE p EX t F) : SemS p EX (tRet t) (retS F) :=
  Sem.stm (k := fun b E σ H => E.rt b H) h fun R H O σ ρ b a E S r g => g b σ R H O S .refl r
theorem sem_retN {p : Pm} {EX : WX} : SemS p EX tRetN (fun ρ => .rt (.im .none) ρ) := fun R H O σ ρ E S g => g .non σ R H O S .refl .non
def dropS {α : Type} (F : Rho → Ou α) : Rho → So := fun ρ => bs (F ρ) fun _ ρ' => .nx ρ'
theorem sem_drop {p : Pm} {EX : WX} {t : TE} {F : Rho → Ou Rs} (h : SemE p EX t F) : SemS p EX (tDrop t) (dropS F) :=
  Sem.stm (k := fun b E σ H => E.nx σ H) h fun R H O σ ρ b a E S r g => g σ R H O S .refl
def iteS (C : Rho → Ou Bool) (F G : Rho → So) : Rho → So := fun ρ => bs (C ρ) fun b ρ1 => if b = true then F ρ1 else G ρ1
theorem sem_ite {p : Pm} {EX : WX} {c : TT} {t u : TS} {C : Rho → Ou Bool} {F G : Rho → So} (hc : SemT p EX c C) (h : SemS p EX t F) (k : SemS p EX u G) : SemS p EX (tIfS c t u) (iteS C F G) := by
  refine Sem.stm (k := fun b E σ H => if b = true then t E σ H else u E σ H) (G := fun b ρ1 => if b = true then F ρ1 else G ρ1) hc fun R H O σ ρ v a E S hv g => ?_
  subst hv
  cases v with
  | true => exact h R H O σ ρ E S g
  | false => exact k R H O σ ρ E S g

/-! ### targets -/
def pinned (ρ : Rho) (i : Nat) : Bool := match ρ[i]? with
  | some (.ow true _) => true
  | _ => false
theorem Stt.store {p : Pm} {R H : Hp} {O : As} {σ : Sg} {ρ : Rho} (S : Stt p R H O σ ρ) {i : Nat} {v : V} {x : Sl} (np : pinned ρ i = false)
    (hx : (∃ d, x = .im d ∧ Dp p.K R v d) ∨ (∃ a vs ds, x = .ow false ds ∧ v = .ref a ∧ O a ∧ H a = some (.lst vs) ∧ DpAll p.K R vs ds ∧ ∀ (j : Nat) b es, ρ[j]? = some (.ow b es) → σ[j]? ≠ some (some (.ref a)))) :
    Stt p R H O (σ.set i (some v)) (ρ.set i x) := by
  have hi : ∀ {y}, (ρ.set i x)[i]? = some y → i < σ.length := fun {y} e => by
    have h1 : i < (ρ.set i x).length := (List.getElem?_eq_some_iff.mp e).1
    rw [List.length_set] at h1; rw [← S.len]; exact h1
  have self : i < σ.length → (σ.set i (some v))[i]? = some (some v) := fun h => by rw [List.getElem?_set_self h]
  have other : ∀ {j}, i ≠ j → (σ.set i (some v))[j]? = σ[j]? := fun h => List.getElem?_set_ne h
  refine ⟨S.sub, S.dis, S.al, by rw [List.length_set, List.length_set]; exact S.len, fun j d e => ?_, fun j b ds e => ?_, fun j y w e hw => ?_, fun j k b c ds es a e1 e2 q1 q2 => ?_, fun j tag d e => ?_⟩
  · rcases set_get e with ⟨rfl, z⟩ | ⟨n, z⟩
    · rcases hx with ⟨d', rfl, h⟩ | ⟨a, vs, ds, rfl, _⟩
      · cases z; exact ⟨v, self (hi e), h⟩
      · cases z
    · obtain ⟨u, e1, e2⟩ := S.im j d z
      exact ⟨u, by rw [other n]; exact e1, e2⟩
  · rcases set_get e with ⟨rfl, z⟩ | ⟨n, z⟩
    · rcases hx with ⟨d', rfl, h⟩ | ⟨a, vs, ds', rfl, rfl, h1, h2, h3, _⟩
      · cases z
      · cases z; exact ⟨a, vs, self (hi e), h1, h2, h3⟩
    · obtain ⟨a, vs, e1, e2⟩ := S.ow j b ds z
      exact ⟨a, vs, by rw [other n]; exact e1, e2⟩
  · rcases set_get e with ⟨rfl, z⟩ | ⟨n, z⟩
    · rcases hx with ⟨d', rfl, h⟩ | ⟨a, vs, ds', rfl, _⟩ <;> (subst z; cases hw)
    · rw [other n]; exact S.pn j y w z hw
  · rcases set_get e1 with ⟨rfl, z1⟩ | ⟨n1, z1⟩
    · rcases hx with ⟨d', rfl, h⟩ | ⟨a', vs, ds', rfl, rfl, h1, h2, h3, h4⟩
      · cases z1
      · rcases set_get e2 with ⟨rfl, z2⟩ | ⟨n2, z2⟩
        · rfl
        · rw [self (hi e1)] at q1; cases q1
          rw [other n2] at q2
          exact (h4 k c es z2 q2).elim
    · rcases set_get e2 with ⟨rfl, z2⟩ | ⟨n2, z2⟩
      · rcases hx with ⟨d', rfl, h⟩ | ⟨a', vs, ds', rfl, rfl, h1, h2, h3, h4⟩
        · cases z2
        · rw [self (hi e2)] at q2; cases q2
          rw [other n1] at q1
          exact (h4 j b ds z1 q1).elim
      · rw [other n1] at q1; rw [other n2] at q2
        exact S.inj j k b c ds es a z1 z2 q1 q2
  · rcases set_get e with ⟨rfl, z⟩ | ⟨n, z⟩
    · rcases hx with ⟨d', rfl, h⟩ | ⟨a, vs, ds', rfl, _⟩ <;> cases z
    · rw [other n]; exact S.xn j tag d z
/-- name = value -/
def setN (i : Nat) (r : Rs) (ρ : Rho) : So := if pinned ρ i = true then .bad else match r with
  | .im d => .nx (ρ.set i (.im d))
  | .fr ds => .nx (ρ.set i (.ow false ds))
  | .sl j => bs (thaw j ρ) fun d ρ' => if pinned ρ' i = true then .bad else .nx (ρ'.set i (.im d))
def asgS (i : Nat) (F : Rho → Ou Rs) : Rho → So := fun ρ => bs (F ρ) (setN i)
theorem sem_asg {p : Pm} {EX : WX} {t : TE} {F : Rho → Ou Rs} {i : Nat} (h : SemE p EX t F) : SemS p EX (tAsg t (gName i)) (asgS i F) := by
  refine Sem.stm (k := fun x E σ H => E.nx (σ.set i (some x)) H) (G := setN i) h fun R H O σ ρ v a E S hv g => ?_
  unfold setN at g
  split at g
  · exact g.elim
  · rename_i np
    have np : pinned ρ i = false := by simpa using np
    cases a with
    | im d => exact g _ R H O (S.store np (.inl ⟨d, rfl, hv⟩)) .refl
    | fr ds =>
      obtain ⟨a, vs, rfl, oa, ha, hd, un⟩ := hv
      exact g _ R H O (S.store np (.inr ⟨a, vs, ds, rfl, rfl, oa, ha, hd, un⟩)) .refl
    | sl j =>
      obtain ⟨b, ds, _, e1⟩ := hv
      have g : GoodS p EX R H O E (bs (thaw j ρ) fun d ρ' => if pinned ρ' i = true then .bad else .nx (ρ'.set i (.im d))) := g
      cases q : thaw j ρ with
      | bad => rw [q] at g; exact g.elim
      | ex t d ρ' => exact (thaw_ex q).elim
      | ok d ρ' =>
        rw [q] at g
        obtain ⟨R', O', S', T', d'⟩ := thaw_ok S q e1
        have g : GoodS p EX R H O E (if pinned ρ' i = true then .bad else .nx (ρ'.set i (.im d))) := g
        split at g
        · exact g.elim
        · rename_i np'
          exact g _ R' H O' (S'.store (by simpa using np') (.inl ⟨d, rfl, d'⟩)) T'
abbrev Tg := D → Rho → Option Rho
abbrev Tgs := List D → Rho → Option Rho
/-- but for these slots the same -/
def But (ks : List Nat) (σ σ' : Sg) : Prop := σ'.length = σ.length ∧ ∀ j, j ∉ ks → σ'[j]? = σ[j]?
theorem But.trans {ks ls : List Nat} {σ σ1 σ2 : Sg} (a : But ks σ σ1) (b : But ls σ1 σ2) : But (ks ++ ls) σ σ2 :=
  ⟨b.1.trans a.1, fun j n => (b.2 j fun z => n (List.mem_append_right _ z)).trans (a.2 j fun z => n (List.mem_append_left _ z))⟩
def SemG (p : Pm) (ks : List Nat) (g : TG) (T : Tg) : Prop := ∀ (R H : Hp) (O : As) (σ : Sg) (ρ ρ' : Rho) (v : V) (d : D) (Q : Sg → Hp → Prop), Stt p R H O σ ρ → Dp p.K R v d → T d ρ = some ρ' → (∀ σ', Stt p R H O σ' ρ' → But ks σ σ' → Q σ' H) → g v σ H Q
def SemGs (p : Pm) (ks : List Nat) (g : TGs) (T : Tgs) : Prop := ∀ (R H : Hp) (O : As) (σ : Sg) (ρ ρ' : Rho) (vs : List V) (ds : List D) (Q : Sg → Hp → Prop), Stt p R H O σ ρ → DpAll p.K R vs ds → T ds ρ = some ρ' → (∀ σ', Stt p R H O σ' ρ' → But ks σ σ' → Q σ' H) → g vs σ H Q
def nameT (i : Nat) : Tg := fun d ρ => if pinned ρ i = true then none else some (ρ.set i (.im d))
theorem sem_name {p : Pm} {i : Nat} : SemG p [i] (gName i) (nameT i) := by
  intro R H O σ ρ ρ' v d Q S hv e q
  unfold nameT at e
  split at e
  · cases e
  · rename_i np
    cases Option.some.inj e
    exact q _ (S.store (by simpa using np) (.inl ⟨d, rfl, hv⟩)) ⟨by rw [List.length_set], fun j n => List.getElem?_set_ne fun z => n (by rw [z]; exact List.mem_cons_self)⟩
def nilT : Tgs := fun ds ρ => match ds with
  | [] => some ρ
  | _ => none
def consT (T : Tg) (U : Tgs) : Tgs := fun ds ρ => match ds with
  | d :: r => (T d ρ).bind (U r)
  | [] => none
def tupT (n : Nat) (U : Tgs) : Tg := fun d ρ => match d with
  | .tuple ds => if ds.length = n then U ds ρ else none
  | _ => none
theorem sem_gnil {p : Pm} : SemGs p [] gNil nilT := by
  intro R H O σ ρ ρ' vs ds Q S hv e q
  cases hv with
  | nil => cases Option.some.inj e; exact ⟨rfl, q σ S ⟨rfl, fun _ _ => rfl⟩⟩
  | cons _ _ => cases e
theorem sem_gcons {p : Pm} {ks ls : List Nat} {g : TG} {gs : TGs} {T : Tg} {U : Tgs} (h : SemG p ks g T) (k : SemGs p ls gs U) : SemGs p (ks ++ ls) (gCons g gs) (consT T U) := by
  intro R H O σ ρ ρ' vs ds Q S hv e q
  cases hv with
  | nil => cases e
  | cons h1 h2 =>
    obtain ⟨ρ1, e1, e2⟩ := Option.bind_eq_some_iff.mp e
    exact ⟨_, _, rfl, h R H O σ ρ ρ1 _ _ _ S h1 e1 fun σ' S' b1 => k R H O σ' ρ1 ρ' _ _ Q S' h2 e2 fun σ2 S2 b2 => q σ2 S2 (b1.trans b2)⟩
theorem sem_gtup {p : Pm} {ks : List Nat} {n : Nat} {gs : TGs} {U : Tgs} (k : SemGs p ks gs U) : SemG p ks (gTup p.K n gs) (tupT n U) := by
  intro R H O σ ρ ρ' v d Q S hv e q
  cases d with
  | tuple ds =>
    cases hv with
    | tup hs hd =>
      have e : (if ds.length = n then U ds ρ else none) = some ρ' := e
      split at e
      · rename_i hn
        exact ⟨_, _, rfl, sqT_mono S.sub hs, by rw [dpAll_len hd]; exact hn, k R H O σ ρ ρ' _ _ Q S hd e q⟩
      · cases e
  | none => cases e
  | bool _ => cases e
  | int _ => cases e
  | str _ => cases e
  | list _ => cases e
  | dict _ => cases e
/-- targets that take data -/
def tgS (T : Tg) (F : Rho → Ou Rs) : Rho → So := fun ρ => bs (bd (frz (F ρ)) dat) fun d ρ' => match T d ρ' with
  | some ρ2 => .nx ρ2
  | none => .bad
theorem sem_tg {p : Pm} {EX : WX} {t : TE} {F : Rho → Ou Rs} {ks : List Nat} {g : TG} {T : Tg} (hg : SemG p ks g T) (h : SemE p EX t F) : SemS p EX (tAsg t g) (tgS T F) := by
  refine Sem.stm (k := fun x E σ H => g x σ H E.nx) (G := fun d ρ' => match T d ρ' with | some ρ2 => .nx ρ2 | none => .bad) h.op.dat fun R H O σ ρ v a E S hv q => ?_
  cases e : T a ρ with
  | none =>
    have q : GoodS p EX R H O E (match T a ρ with | some ρ2 => .nx ρ2 | none => .bad) := q
    rw [e] at q; exact q.elim
  | some ρ2 =>
    have q : GoodS p EX R H O E (match T a ρ with | some ρ2 => .nx ρ2 | none => .bad) := q
    rw [e] at q
    exact hg R H O σ ρ ρ2 v a _ S hv e fun σ' S' _ => q σ' R H O S' .refl

/-! ### a list kept while more is done -/
theorem Stt.less {p : Pm} {R H : Hp} {O : As} {σ : Sg} {ρ : Rho} (S : Stt p R H O σ ρ) {a : Addr} (un : ∀ (i : Nat) b es, ρ[i]? = some (.ow b es) → σ[i]? ≠ some (some (.ref a))) : Stt p R H (fun b => O b ∧ b ≠ a) σ ρ :=
  ⟨S.sub, fun b ob => S.dis b ob.1, fun b ob => S.al b ob.1, S.len, S.im, fun i b ds e => by
    obtain ⟨c, vs, e1, e2, e3⟩ := S.ow i b ds e
    exact ⟨c, vs, e1, ⟨e2, fun z => by subst z; exact un i b ds e e1⟩, e3⟩, S.pn, S.inj, fun i tag d e => by
    obtain ⟨e1, e2, dd, v, e3, e4, e5⟩ := S.xn i tag d e
    exact ⟨e1, e2, dd, v, e3, fun z => e4 z.1, e5⟩⟩
/-- a list that was kept aside comes back -/
theorem Stt.back {p : Pm} {R H R2 H2 : Hp} {O O1 O2 : As} {σ : Sg} {ρ : Rho} {a : Addr} {vs : List V} {u : HO} (S2 : Stt p R2 H2 O2 σ ρ) (T : Tr R H O1 R2 H2 O2) (ha : H a = some u) (na : R a = none) (n1 : ¬ O1 a) (nx : ∀ w, u ≠ .xd w) (le : ∀ b, O1 b → O b) (oa : O a) :
    Stt p R2 H2 (fun b => O2 b ∨ b = a) σ ρ ∧ Tr R H O R2 H2 (fun b => O2 b ∨ b = a) ∧ H2 a = some u ∧ R2 a = none ∧ ¬ O2 a := by
  have h2 : H2 a = some u := T.h a u ha n1
  have r2 : R2 a = none := by
    cases q : R2 a with
    | none => rfl
    | some o =>
      rcases T.nw a (by rw [q]; exact fun z => nomatch z) with z | z | z
      · exact (z na).elim
      · rw [ha] at z; cases z
      · exact (n1 z).elim
  have o2 : ¬ O2 a := fun z => (T.o a z).elim n1 fun z => by rw [ha] at z; cases z
  refine ⟨⟨S2.sub, fun b ob => ?_, fun b ob => ?_, S2.len, S2.im, fun i b ds e => ?_, S2.pn, S2.inj, fun i tag d e => ?_⟩, ⟨T.r, fun b o e n => T.h b o e fun z => n (le b z), fun b e => (T.nw b e).imp id (Or.imp id (le b)), fun b ob => ?_, T.k⟩, h2, r2, o2⟩
  · rcases ob with ob | rfl
    · exact S2.dis b ob
    · exact r2
  · rcases ob with ob | rfl
    · exact S2.al b ob
    · rw [h2]; exact fun z => nomatch z
  · obtain ⟨c, ws, e1, e2, e3⟩ := S2.ow i b ds e; exact ⟨c, ws, e1, .inl e2, e3⟩
  · obtain ⟨e1, e2, dd, v, e3, e4, e5, e6⟩ := S2.xn i tag d e
    refine ⟨e1, e2, dd, v, e3, fun z => z.elim e4 fun z => ?_, e5, e6⟩
    subst z; rw [h2] at e5; exact nx _ (Option.some.inj e5)
  · rcases ob with ob | rfl
    · exact (T.o b ob).imp (le b) id
    · exact .inl oa

/-! ### loops -/
/-- what is walked gives these data, whatever grows -/
def ItOk (p : Pm) (R : Hp) (J : It) (ds : List D) : Prop := ∀ R1 H1, (∀ b o, R b = some o → R1 b = some o) → (∀ b o, R1 b = some o → H1 b = some o) →
  (∀ i d, ds[i]? = some d → J.go i H1 ∧ ∀ x H2, J.yld i H1 x H2 → ∃ R2, Grow R1 H1 R2 H2 ∧ Dp p.K R2 x d) ∧ (∀ i, ds.length ≤ i → J.stop i H1)
abbrev SemI (p : Pm) (EX : WX) : TI → (Rho → Ou (List D)) → Prop := Sem p EX (fun R _ _ _ _ J ds => ItOk p R J ds)
def forL (T : Tg) (B : Rho → So) : List D → Rho → So
  | [], ρ => .nx ρ
  | d :: ds, ρ => match T d ρ with
    | none => .bad
    | some ρ1 => match B ρ1 with
      | .nx ρ2 => forL T B ds ρ2
      | .ct ρ2 => forL T B ds ρ2
      | .bk ρ2 => .nx ρ2
      | o => o
def forS (I : Rho → Ou (List D)) (T : Tg) (B : Rho → So) : Rho → So := fun ρ => bs (I ρ) (forL T B)
theorem sem_for {p : Pm} {EX : WX} {wi : TI} {I : Rho → Ou (List D)} {ks : List Nat} {g : TG} {T : Tg} {tb : TS} {B : Rho → So} (hi : SemI p EX wi I) (hg : SemG p ks g T) (hb : SemS p EX tb B) : SemS p EX (tFor wi g tb) (forS I T B) := by
  refine Sem.stm (k := fun J E σ H1 => ∃ W : Nat → Nat → Sg → Hp → Prop, (∃ m, W 0 m σ H1) ∧ ∀ i m σ H, W i m σ H →
    (J.stop i H ∧ E.nx σ H) ∨ (J.go i H ∧ ∃ N : Sg → Hp → Prop, (∀ σ' H', N σ' H' → ∃ m', m' < m ∧ W (i + 1) m' σ' H') ∧ ∀ x H', J.yld i H x H' → g x σ H' fun σ2 H2 => tb { E with nx := N, ct := N, bk := E.nx } σ2 H2))
    (G := forL T B) hi fun R0 H0 O0 σ0 ρ0 J ds E S0 hJ g0 => ?_
  refine ⟨fun i m σ H => m + i = ds.length ∧ i ≤ ds.length ∧ ∃ R O ρ, Stt p R H O σ ρ ∧ Tr R0 H0 O0 R H O ∧ GoodS p EX R H O E (forL T B (ds.drop i) ρ),
    ⟨ds.length, by omega, Nat.zero_le _, R0, O0, ρ0, S0, .refl, g0⟩, fun i m σ H hW => ?_⟩
  obtain ⟨em, hi, R, O, ρ, S, T0, g1⟩ := hW
  obtain ⟨j1, j2⟩ := hJ R H T0.r S.sub
  by_cases hl : i < ds.length
  · have ed : ds[i]? = some ds[i] := List.getElem?_eq_getElem hl
    obtain ⟨jg, jy⟩ := j1 i _ ed
    rw [List.drop_eq_getElem_cons hl] at g1
    refine .inr ⟨jg, fun σ' H' => ∃ R' O' ρ', Stt p R' H' O' σ' ρ' ∧ Tr R0 H0 O0 R' H' O' ∧ GoodS p EX R' H' O' E (forL T B (ds.drop (i + 1)) ρ'), fun σ' H' hN => ⟨m - 1, by omega, by omega, hl, hN⟩, fun x H' hy => ?_⟩
    obtain ⟨R2, gr, dx⟩ := jy x H' hy
    obtain ⟨S2, T2⟩ := S.grow gr
    have g2 := GoodS.tr T2 g1
    unfold forL at g2
    split at g2
    · exact g2.elim
    · rename_i ρ1 e1
      refine hg R2 H' O σ ρ ρ1 x _ _ S2 dx e1 fun σ' S' _ => ?_
      refine hb R2 H' O σ' ρ1 _ S' ?_
      have T3 := T0.trans T2
      cases q : B ρ1 with
      | bad => rw [q] at g2; exact g2
      | nx ρ2 => rw [q] at g2; exact fun σ3 R3 H3 O3 S3 T4 => ⟨R3, O3, ρ2, S3, T3.trans T4, g2.tr T4⟩
      | ct ρ2 => rw [q] at g2; exact fun σ3 R3 H3 O3 S3 T4 => ⟨R3, O3, ρ2, S3, T3.trans T4, g2.tr T4⟩
      | bk ρ2 => rw [q] at g2; exact g2
      | rt r ρ2 => rw [q] at g2; exact g2
      | ex t d ρ2 => rw [q] at g2; exact g2
  · have e : ds.drop i = [] := List.drop_eq_nil_of_le (by omega)
    rw [e] at g1
    exact .inl ⟨j2 i (by omega), g1 σ R H O S .refl⟩
/-- a list or a tuple that is data -/
def itD (d : D) (ρ : Rho) : Ou (List D) := match d with
  | .list ds => .ok ds ρ
  | .tuple ds => .ok ds ρ
  | _ => .bad
def seqI (F : Rho → Ou Rs) : Rho → Ou (List D) := fun ρ => bd (bd (frz (F ρ)) dat) itD
theorem dpAll_none {K : PySem.W.Frag} {R : Hp} {vs : List V} {ds : List D} (h : DpAll K R vs ds) {i : Nat} (e : ds.length ≤ i) : vs.length ≤ i := by rw [dpAll_len h]; exact e
theorem it_list {p : Pm} {R : Hp} {a : Addr} {vs : List V} {ds : List D} (hs : SqL p.K R a vs) (hd : DpAll p.K R vs ds) : ItOk p R (Itl p.K a) ds := by
  intro R1 H1 m1 m2
  have h1 : SqL p.K H1 a vs := sqL_mono m2 (sqL_mono m1 hs)
  refine ⟨fun i d e => ?_, fun i e => ⟨vs, h1, dpAll_none hd e⟩⟩
  obtain ⟨v, ev, hv⟩ := dpAll_get hd e
  refine ⟨⟨vs, v, h1, ev⟩, fun x H2 hy => ?_⟩
  obtain ⟨rfl, q⟩ := hy
  have := q vs h1
  rw [ev] at this; cases this
  exact ⟨R1, .refl m2, dp_mono m1 d v hv⟩
theorem it_tup {p : Pm} {R : Hp} {a : Addr} {vs : List V} {ds : List D} (hs : SqT p.K R a vs) (hd : DpAll p.K R vs ds) : ItOk p R (Itt p.K a) ds := by
  intro R1 H1 m1 m2
  have h1 : SqT p.K H1 a vs := sqT_mono m2 (sqT_mono m1 hs)
  refine ⟨fun i d e => ?_, fun i e => ⟨vs, h1, dpAll_none hd e⟩⟩
  obtain ⟨v, ev, hv⟩ := dpAll_get hd e
  refine ⟨⟨vs, v, h1, ev⟩, fun x H2 hy => ?_⟩
  obtain ⟨rfl, q⟩ := hy
  have := q vs h1
  rw [ev] at this; cases this
  exact ⟨R1, .refl m2, dp_mono m1 d v hv⟩
def iSq (K : PySem.W.Frag) (t : TE) : TI := fun σ H R => iList K t σ H R ∨ iTup K t σ H R
theorem pi_sq {X : Cx} {tg l : Expr} {t : TE} (h : PE X l t) : PI X tg l (iSq X.K t) := ⟨fun pins s σ H R I q => q.elim ((pi_list h).run pins s σ H R I) ((pi_tup h).run pins s σ H R I)⟩
theorem sem_sq {p : Pm} {EX : WX} {t : TE} {F : Rho → Ou Rs} (h : SemE p EX t F) : SemI p EX (iSq p.K t) (seqI F) := by
  intro R H O σ ρ Q S g
  have hd := h.op.dat R H O σ ρ
  have g : Good p EX _ R H O σ Q (bd (bd (frz (F ρ)) dat) itD) := g
  cases e : bd (frz (F ρ)) dat with
  | bad => rw [e] at g; exact g.elim
  | ex t2 d ρ2 => rw [e] at g; exact .inl (hd _ S (by show Good p EX _ R H O σ _ (bd (frz (F ρ)) dat); rw [e]; exact g))
  | ok d ρ2 =>
    rw [e] at g
    cases d with
    | list ds =>
      refine .inl (hd (fun x H1 => ∃ a, x = .ref a ∧ (∃ xs, SqL p.K H1 a xs) ∧ Q (Itl p.K a) H1) S ?_)
      show Good p EX _ R H O σ _ (bd (frz (F ρ)) dat)
      rw [e]
      intro v R2 H2 O2 S2 T2 hv
      have hv : Dp p.K R2 v (.list ds) := hv
      cases hv with
      | lst hs ha => exact ⟨_, rfl, ⟨_, sqL_mono S2.sub hs⟩, g _ R2 H2 O2 S2 T2 (it_list hs ha)⟩
    | tuple ds =>
      refine .inr (hd (fun x H1 => ∃ a, x = .ref a ∧ (∃ xs, SqT p.K H1 a xs) ∧ Q (Itt p.K a) H1) S ?_)
      show Good p EX _ R H O σ _ (bd (frz (F ρ)) dat)
      rw [e]
      intro v R2 H2 O2 S2 T2 hv
      have hv : Dp p.K R2 v (.tuple ds) := hv
      cases hv with
      | tup hs ha => exact ⟨_, rfl, ⟨_, sqT_mono S2.sub hs⟩, g _ R2 H2 O2 S2 T2 (it_tup hs ha)⟩
    | none => exact g.elim
    | bool _ => exact g.elim
    | int _ => exact g.elim
    | str _ => exact g.elim
    | dict _ => exact g.elim
/-- range -/
def rngD (lo hi : Int) : List D := (List.range (hi - lo).toNat).map fun i => .int (lo + (i : Nat))
theorem it_rng {p : Pm} {R : Hp} {lo : Int} {n : Nat} : ItOk p R (Itr lo n) ((List.range n).map fun i => .int (lo + (i : Nat))) := by
  intro R1 H1 m1 m2
  refine ⟨fun i d e => ?_, fun i e => by rw [List.length_map, List.length_range] at e; exact e⟩
  rw [List.getElem?_map] at e
  by_cases hi : i < n
  · rw [List.getElem?_range hi] at e
    cases Option.some.inj e
    refine ⟨hi, fun x H2 hy => ?_⟩
    obtain ⟨rfl, rfl⟩ := hy
    exact ⟨R1, .refl m2, .int _⟩
  · rw [List.getElem?_eq_none (by rw [List.length_range]; omega)] at e; cases e
def rng1O (j : D) (ρ : Rho) : Ou (List D) := match j with
  | .int j => if -(2 ^ 62) ≤ j ∧ j < 2 ^ 62 then .ok (rngD 0 j) ρ else .bad
  | _ => .bad
def rng1I (F : Rho → Ou Rs) : Rho → Ou (List D) := fun ρ => bd (bd (frz (F ρ)) dat) rng1O
theorem sem_rng1 {p : Pm} {EX : WX} {t : TE} {F : Rho → Ou Rs} (h : SemE p EX t F) : SemI p EX (iRng1 (tCons t tNil)) (rng1I F) := by
  refine Sem.bind (k := fun v σ H R => ∃ j : Int, [v] = [V.int j] ∧ -(2 ^ 62) ≤ j ∧ j < 2 ^ 62 ∧ R (Itr 0 j.toNat) H) (G := rng1O) h.op.dat fun R H O σ ρ v a Q S hv g => ?_
  unfold rng1O at g
  split at g
  · rename_i j
    split at g
    · rename_i hb
      cases hv
      refine ⟨j, rfl, hb.1, hb.2, g _ R H O S .refl ?_⟩
      unfold rngD
      rw [Int.sub_zero]
      exact it_rng
    · exact g.elim
  · exact g.elim
def rng2O (ds : List D) (ρ : Rho) : Ou (List D) := match ds with
  | [.int i, .int j] => if -(2 ^ 62) ≤ i ∧ i < 2 ^ 62 ∧ -(2 ^ 62) ≤ j ∧ j < 2 ^ 62 then .ok (rngD i j) ρ else .bad
  | _ => .bad
def rng2I (F : Rho → Ou (List D)) : Rho → Ou (List D) := fun ρ => bd (F ρ) rng2O
theorem sem_rng2 {p : Pm} {EX : WX} {t : TA} {F : Rho → Ou (List D)} (h : SemAD p EX t F) : SemI p EX (iRng2 t) (rng2I F) := by
  refine Sem.bind (k := fun vs σ H R => ∃ i j : Int, vs = [.int i, .int j] ∧ (-(2 ^ 62) ≤ i ∧ i < 2 ^ 62 ∧ -(2 ^ 62) ≤ j ∧ j < 2 ^ 62) ∧ R (Itr i (j - i).toNat) H) (G := rng2O) h fun R H O σ ρ vs a Q S hv g => ?_
  unfold rng2O at g
  split at g
  · rename_i i j
    split at g
    · rename_i hb
      cases hv with
      | cons h1 h2 => cases h1; cases h2 with
        | cons h3 h4 => cases h3; cases h4; exact ⟨i, j, rfl, hb, g _ R H O S .refl it_rng⟩
    · exact g.elim
  · exact g.elim

/-! ### comprehensions -/
def wipeR (ρ : Rho) : List Nat → Rho
  | [] => ρ
  | v :: vs => (wipeR ρ vs).set v .un
theorem set_none {p : Pm} {R H : Hp} {O : As} {σ : Sg} {ρ : Rho} {i : Nat} (S : Stt p R H O σ ρ) (hi : pinned ρ i = false) : Stt p R H O (σ.set i none) (ρ.set i .un) := by
  have other : ∀ {j : Nat}, i ≠ j → (σ.set i none)[j]? = σ[j]? := fun h => List.getElem?_set_ne h
  refine ⟨S.sub, S.dis, S.al, by rw [List.length_set, List.length_set]; exact S.len, fun j d e => ?_, fun j b ds e => ?_, fun j y w e hw => ?_, fun j k b c ds es a e1 e2 q1 q2 => ?_, fun j tag d e => ?_⟩
  · rcases set_get e with ⟨rfl, z⟩ | ⟨n, z⟩
    · cases z
    · rw [other n]; exact S.im j d z
  · rcases set_get e with ⟨rfl, z⟩ | ⟨n, z⟩
    · cases z
    · rw [other n]; exact S.ow j b ds z
  · rcases set_get e with ⟨rfl, z⟩ | ⟨n, z⟩
    · subst z; cases hw
    · rw [other n]; exact S.pn j y w z hw
  · rcases set_get e1 with ⟨rfl, z1⟩ | ⟨n1, z1⟩
    · cases z1
    · rcases set_get e2 with ⟨rfl, z2⟩ | ⟨n2, z2⟩
      · cases z2
      · rw [other n1] at q1; rw [other n2] at q2; exact S.inj j k b c ds es a z1 z2 q1 q2
  · rcases set_get e with ⟨rfl, z⟩ | ⟨n, z⟩
    · cases z
    · rw [other n]; exact S.xn j tag d z
/-- no slot of these holds a list of its own, nor an error -/
def plainAt (ρ : Rho) (vs : List Nat) : Bool := vs.all fun i => match ρ[i]? with
  | some .un => true
  | some (.im _) => true
  | _ => false
theorem pinned_of_plain {ρ : Rho} {i : Nat} (h : (match ρ[i]? with | some .un => true | some (.im _) => true | _ => false) = true) : pinned ρ i = false := by
  unfold pinned
  split at h
  · rename_i e; rw [e]
  · rename_i e; rw [e]
  · cases h
theorem wipe_at {ρ : Rho} : ∀ {vs : List Nat} {i : Nat}, (wipeR ρ vs)[i]? = ρ[i]? ∨ (i ∈ vs ∧ (wipeR ρ vs)[i]? = some .un) ∨ ρ[i]? = none
  | [], i => .inl rfl
  | v :: vs, i => by
    unfold wipeR
    by_cases e : v = i
    · subst e
      rw [List.getElem?_set_self']
      cases q : (wipeR ρ vs)[v]? with
      | some z => exact .inr (.inl ⟨List.mem_cons_self, rfl⟩)
      | none =>
        rcases wipe_at (ρ := ρ) (vs := vs) (i := v) with z | ⟨_, z⟩ | z
        · rw [q] at z; exact .inr (.inr z.symm)
        · rw [q] at z; cases z
        · exact .inr (.inr z)
    · rw [List.getElem?_set_ne e]
      rcases wipe_at (ρ := ρ) (vs := vs) (i := i) with z | ⟨m, z⟩ | z
      · exact .inl z
      · exact .inr (.inl ⟨List.mem_cons_of_mem _ m, z⟩)
      · exact .inr (.inr z)
theorem wipe_ok {p : Pm} {R H : Hp} {O : As} {σ : Sg} {ρ : Rho} (S : Stt p R H O σ ρ) : ∀ (vs : List Nat), plainAt ρ vs = true → Stt p R H O (wipe σ vs) (wipeR ρ vs)
  | [], _ => S
  | v :: vs, h => by
    unfold plainAt at h
    rw [List.all_cons, Bool.and_eq_true] at h
    have ih := wipe_ok S vs h.2
    refine set_none ih ?_
    rcases wipe_at (ρ := ρ) (vs := vs) (i := v) with z | ⟨_, z⟩ | z
    · have := pinned_of_plain h.1
      unfold pinned at this ⊢
      rw [z]; exact this
    · unfold pinned; rw [z]
    · have h1 := h.1
      rw [z] at h1; cases h1
/-- a comprehension's slots after it: data stays, the rest of the state is what it has become -/
def unwipe (ρ0 ρ : Rho) : List Nat → Rho
  | [] => ρ
  | v :: vs => match ρ0[v]? with
    | some (.im d) => (unwipe ρ0 ρ vs).set v (.im d)
    | _ => (unwipe ρ0 ρ vs).set v .un
theorem wipe_get {σ : Sg} : ∀ {vs : List Nat} {i : Nat}, i ∉ vs → (wipe σ vs)[i]? = σ[i]?
  | [], _, _ => rfl
  | v :: vs, i, h => by
    unfold wipe
    rw [List.getElem?_set_ne fun z => h (by rw [z]; exact List.mem_cons_self)]
    exact wipe_get fun z => h (List.mem_cons_of_mem _ z)
theorem wipeR_none {ρ : Rho} : ∀ {vs : List Nat} {i : Nat}, i ∈ vs → (wipeR ρ vs)[i]? = none ∨ (wipeR ρ vs)[i]? = some .un
  | v :: vs, i, h => by
    unfold wipeR
    by_cases e : v = i
    · subst e
      rw [List.getElem?_set_self']
      cases (wipeR ρ vs)[v]? with
      | none => exact .inl rfl
      | some z => exact .inr rfl
    · rw [List.getElem?_set_ne e]
      exact wipeR_none ((List.mem_cons.mp h).resolve_left fun z => e z.symm)
/-- from the wiped slots back to all -/
theorem wide {p : Pm} {R H : Hp} {O : As} {σ : Sg} {ρ : Rho} {vs : List Nat} (S : Stt p R H O (wipe σ vs) ρ) (hl : ρ.length = σ.length) (hu : ∀ i ∈ vs, ρ[i]? = none ∨ ρ[i]? = some .un) : Stt p R H O σ ρ := by
  have ni : ∀ {i : Nat} {y : Sl}, ρ[i]? = some y → y ≠ .un → i ∉ vs := fun {i y} e n m => by
    rcases hu i m with z | z
    · rw [z] at e; cases e
    · rw [z] at e; exact n (Option.some.inj e).symm
  have g : ∀ {i : Nat} {y : Sl}, ρ[i]? = some y → y ≠ .un → (wipe σ vs)[i]? = σ[i]? := fun e n => wipe_get (ni e n)
  refine ⟨S.sub, S.dis, S.al, hl, fun j d e => ?_, fun j b ds e => ?_, fun j y w e hw => ?_, fun j k b c ds es a e1 e2 q1 q2 => ?_, fun j tag d e => ?_⟩
  · rw [← g e (fun z => nomatch z)]; exact S.im j d e
  · rw [← g e (fun z => nomatch z)]; exact S.ow j b ds e
  · rw [← g e (fun z => by subst z; cases hw)]; exact S.pn j y w e hw
  · rw [← g e1 (fun z => nomatch z)] at q1; rw [← g e2 (fun z => nomatch z)] at q2; exact S.inj j k b c ds es a e1 e2 q1 q2
  · rw [← g e (fun z => nomatch z)]; exact S.xn j tag d e
theorem unwipe_ok {p : Pm} {R0 H0 R H : Hp} {O0 O : As} {σ : Sg} {ρ0 ρ : Rho} (S0 : Stt p R0 H0 O0 σ ρ0) (T : Tr R0 H0 O0 R H O) (S : Stt p R H O σ ρ) : ∀ (vs : List Nat), Stt p R H O σ (unwipe ρ0 ρ vs)
  | [] => S
  | v :: vs => by
    unfold unwipe
    split
    · rename_i d e
      obtain ⟨u, e1, e2⟩ := S0.im v d e
      exact (unwipe_ok S0 T S vs).put (.inr ⟨d, u, rfl, e1, T.dp e2⟩)
    · exact (unwipe_ok S0 T S vs).put (.inl rfl)
theorem wipe_len (σ : Sg) : ∀ vs : List Nat, (wipe σ vs).length = σ.length := wipe_length σ
theorem wipe_in {σ : Sg} : ∀ {vs : List Nat} {i : Nat}, i ∈ vs → i < σ.length → (wipe σ vs)[i]? = some none
  | v :: vs, i, h, hl => by
    unfold wipe
    by_cases e : v = i
    · subst e; rw [List.getElem?_set_self (by rw [wipe_length]; exact hl)]
    · rw [List.getElem?_set_ne e]; exact wipe_in ((List.mem_cons.mp h).resolve_left fun z => e z.symm) hl
theorem wipe_ext {σ τ : Sg} {vs : List Nat} (hl : σ.length = τ.length) (h : ∀ j, j ∉ vs → σ[j]? = τ[j]?) : wipe σ vs = wipe τ vs := by
  refine List.ext_getElem? fun i => ?_
  by_cases m : i ∈ vs
  · by_cases hi : i < σ.length
    · rw [wipe_in m hi, wipe_in m (by omega)]
    · rw [List.getElem?_eq_none (by rw [wipe_length]; omega), List.getElem?_eq_none (by rw [wipe_length]; omega)]
  · rw [wipe_get m, wipe_get m]; exact h i m
theorem wipe_but {σ τ : Sg} {vs ks : List Nat} (b : But ks (wipe σ vs) τ) (hk : ∀ k ∈ ks, k ∈ vs) : wipe τ vs = wipe σ vs := by
  refine (wipe_ext (by rw [b.1, wipe_length]) fun j n => ?_)
  rw [b.2 j fun z => n (hk j z), wipe_get n]
/-- no error leaves these -/
def bdn {α β : Type} (o : Ou α) (f : α → Rho → Ou β) : Ou β := match o with
  | .ok a ρ => f a ρ
  | _ => .bad
abbrev EX0 : WX := fun _ _ _ _ => False
def lcL (T : Tg) (C : Rho → Ou Bool) (E : Rho → Ou Rs) (vs : List Nat) : List D → List D → Rho → Ou (List D)
  | [], acc, ρ => .ok acc ρ
  | d :: ds, acc, ρ => match T d ρ with
    | none => .bad
    | some ρ1 => bdn (C ρ1) fun b ρ2 => if b = true then bdn (bd (frz (E ρ2)) dat) fun e ρ3 => if acc.length < sizeLine ∧ plainAt ρ3 vs = true then lcL T C E vs ds (acc ++ [e]) (wipeR ρ3 vs) else .bad
      else if plainAt ρ2 vs = true then lcL T C E vs ds acc (wipeR ρ2 vs) else .bad
def lcF (I : Rho → Ou (List D)) (T : Tg) (C : Rho → Ou Bool) (E : Rho → Ou Rs) (vs : List Nat) : Rho → Ou Rs := fun ρ => bd (I ρ) fun ds ρ1 =>
  if plainAt ρ1 vs = true then bd (lcL T C E vs ds [] (wipeR ρ1 vs)) fun es ρ2 => .ok (.fr es) (unwipe ρ1 ρ2 vs) else .bad
/-- a list aside is written -/
theorem Stt.aside {p : Pm} {R H : Hp} {O : As} {σ : Sg} {ρ : Rho} (S : Stt p R H O σ ρ) {a : Addr} {vs : List V} (o : HO) (na : R a = none) (no : ¬ O a) (ha : H a = some (.lst vs)) : Stt p R (upd H a o) O σ ρ := by
  refine ⟨fun b u e => ?_, S.dis, fun b ob => ?_, S.len, S.im, fun i b ds e => ?_, S.pn, S.inj, fun i tag d e => ?_⟩
  · rw [upd_ne (ne_of_none e na)]; exact S.sub b u e
  · rw [upd_ne (show b ≠ a from fun z => by subst z; exact no ob)]; exact S.al b ob
  · obtain ⟨c, ws, e1, e2, e3, e4⟩ := S.ow i b ds e
    exact ⟨c, ws, e1, e2, by rw [upd_ne (show c ≠ a from fun z => by subst z; exact no e2)]; exact e3, e4⟩
  · obtain ⟨e1, e2, dd, v, e3, e4, e5, e6⟩ := S.xn i tag d e
    exact ⟨e1, e2, dd, v, e3, e4, by rw [upd_ne (ne_of e5 ha (by intro z; cases z))]; exact e5, e6⟩
theorem Tr.aside {R0 H0 R H : Hp} {O0 O : As} (T : Tr R0 H0 O0 R H O) {a : Addr} (o : HO) (ha : H0 a = none) : Tr R0 H0 O0 R (upd H a o) O :=
  ⟨T.r, fun b u e n => by rw [upd_ne (ne_of_none e ha)]; exact T.h b u e n, T.nw, T.o, fun b e => by
    by_cases z : b = a
    · subst z; rw [upd_same]; exact fun z => nomatch z
    · rw [upd_ne z]; exact T.k b e⟩
theorem Tr.keep {R H R' H' : Hp} {O O' : As} (T : Tr R H O R' H' O') {a : Addr} {u : HO} (ha : H a = some u) (na : R a = none) (no : ¬ O a) : H' a = some u ∧ R' a = none ∧ ¬ O' a := by
  refine ⟨T.h a u ha no, ?_, fun z => (T.o a z).elim no fun z => by rw [ha] at z; cases z⟩
  cases q : R' a with
  | none => rfl
  | some o => exact ((T.nw a (by rw [q]; exact fun z => nomatch z)).elim (fun z => z na) fun z => z.elim (fun z => by rw [ha] at z; cases z) no).elim
theorem wipeR_un {ρ : Rho} {vs : List Nat} : ∀ i ∈ vs, (wipeR ρ vs)[i]? = none ∨ (wipeR ρ vs)[i]? = some .un := fun i h => wipeR_none h
theorem wipeR_len (ρ : Rho) : ∀ vs : List Nat, (wipeR ρ vs).length = ρ.length
  | [] => rfl
  | v :: vs => by unfold wipeR; rw [List.length_set, wipeR_len ρ vs]
theorem sem_lc {p : Pm} {EX : WX} {wi : TI} {I : Rho → Ou (List D)} {ks : List Nat} {g : TG} {T : Tg} {tt : TT} {C : Rho → Ou Bool} {te : TE} {E : Rho → Ou Rs} {vs : List Nat} (hi : SemI p EX wi I) (hg : SemG p ks g T) (ht : SemT p EX0 tt C) (he : SemE p EX0 te E)
    (hk : ∀ k ∈ ks, k ∈ vs) : SemE p EX (tLc wi g tt te vs) (lcF I T C E vs) := by
  refine Sem.bind (k := fun J σ H1 (Q : VK) => ∀ L, H1 L = none → ∃ W : Nat → Nat → Hp → Prop, (∃ m, W 0 m (upd H1 L (.lst []))) ∧ ∀ i m H, W i m H →
    (J.stop i H ∧ Q (.ref L) H) ∨ (J.go i H ∧ ∃ Nx : Hp → Prop, (∀ H', Nx H' → ∃ m', m' < m ∧ W (i + 1) m' H') ∧ ∀ x H', J.yld i H x H' → g x (wipe σ vs) H' fun σ2 H2 => wipe σ2 vs = wipe σ vs ∧ tt σ2 H2 fun b H3 =>
      if b = true then te σ2 H3 fun y H4 => ∃ acc, H4 L = some (.lst acc) ∧ acc.length < sizeLine ∧ Nx (upd H4 L (.lst (acc ++ [y]))) else Nx H3))
    (G := fun ds ρ1 => if plainAt ρ1 vs = true then bd (lcL T C E vs ds [] (wipeR ρ1 vs)) fun es ρ2 => .ok (Rs.fr es) (unwipe ρ1 ρ2 vs) else .bad) hi fun R0 H0 O0 σ ρ0 J ds Q S0 hJ g0 => ?_
  split at g0
  · rename_i pl
    intro L hL
    have rL : R0 L = none := by
      cases e : R0 L with
      | none => rfl
      | some o => have := S0.sub L o e; rw [hL] at this; cases this
    have oL : ¬ O0 L := fun z => S0.al L z hL
    let Fin : List D → Rho → Ou Rs := fun es ρ2 => .ok (.fr es) (unwipe ρ0 ρ2 vs)
    refine ⟨fun i m H => m + i = ds.length ∧ i ≤ ds.length ∧ ∃ R O ρ acc es, Stt p R H O (wipe σ vs) ρ ∧ (ρ.length = σ.length ∧ ∀ i ∈ vs, ρ[i]? = none ∨ ρ[i]? = some .un) ∧ Tr R0 H0 O0 R H O ∧ H L = some (.lst acc) ∧ R L = none ∧ ¬ O L ∧ DpAll p.K R acc es ∧
      Good p EX (Rr p.K) R0 H0 O0 σ Q (bd (lcL T C E vs (ds.drop i) es ρ) Fin), ⟨ds.length, by omega, Nat.zero_le _, R0, O0, wipeR ρ0 vs, [], [], ?_, ⟨by rw [wipeR_len]; exact S0.len, wipeR_un⟩, ?_, upd_same, rL, oL, .nil, g0⟩, fun i m H hW => ?_⟩
    · exact (wipe_ok ⟨(S0.laid (o := .lst []) hL).1.sub, S0.dis, fun b ob => by rw [upd_ne (show b ≠ L from fun z => by subst z; exact oL ob)]; exact S0.al b ob, S0.len, S0.im, fun i b es e => by
        obtain ⟨c, ws, e1, e2, e3, e4⟩ := S0.ow i b es e
        exact ⟨c, ws, e1, e2, by rw [upd_ne (ne_of_none e3 hL)]; exact e3, e4⟩, S0.pn, S0.inj, fun i tag d e => by
        obtain ⟨e1, e2, dd, v, e3, e4, e5, e6⟩ := S0.xn i tag d e
        exact ⟨e1, e2, dd, v, e3, e4, by rw [upd_ne (ne_of_none e5 hL)]; exact e5, e6⟩⟩ vs pl)
    · exact Tr.refl.aside _ hL
    obtain ⟨em, hi, R, O, ρ, acc, es, S, ⟨hl0, hun⟩, T0, hL1, rL1, oL1, dL, g1⟩ := hW
    obtain ⟨j1, j2⟩ := hJ R H T0.r S.sub
    by_cases hl : i < ds.length
    · obtain ⟨jg, jy⟩ := j1 i _ (List.getElem?_eq_getElem hl)
      rw [List.drop_eq_getElem_cons hl] at g1
      refine .inr ⟨jg, fun H' => ∃ R' O' ρ' acc' es', Stt p R' H' O' (wipe σ vs) ρ' ∧ (ρ'.length = σ.length ∧ ∀ i ∈ vs, ρ'[i]? = none ∨ ρ'[i]? = some .un) ∧ Tr R0 H0 O0 R' H' O' ∧ H' L = some (.lst acc') ∧ R' L = none ∧ ¬ O' L ∧ DpAll p.K R' acc' es' ∧
        Good p EX (Rr p.K) R0 H0 O0 σ Q (bd (lcL T C E vs (ds.drop (i + 1)) es' ρ') Fin), fun H' hN => ⟨m - 1, by omega, by omega, hl, hN⟩, fun x H' hy => ?_⟩
      obtain ⟨R2, gr, dx⟩ := jy x H' hy
      obtain ⟨S2, T2⟩ := S.grow gr
      obtain ⟨hL2, rL2, oL2⟩ := T2.keep hL1 rL1 oL1
      unfold lcL at g1
      split at g1
      · exact g1.elim
      · rename_i ρ1 e1
        refine hg R2 H' O _ ρ ρ1 x _ _ S2 dx e1 fun σ2 S3 bt => ⟨wipe_but bt hk, ?_⟩
        have lw : σ2.length = σ.length := by rw [bt.1, wipe_length]
        have T3 := T0.trans T2
        have wσ : wipe σ2 vs = wipe σ vs := wipe_but bt hk
        refine ht R2 H' O σ2 ρ1 _ S3 ?_
        cases qc : C ρ1 with
        | bad => rw [qc] at g1; exact g1
        | ex t d ρ' => rw [qc] at g1; exact g1.elim
        | ok b ρ2 =>
          rw [qc] at g1
          intro b' R4 H4 O4 S4 T4 hb'
          subst hb'
          obtain ⟨hL4, rL4, oL4⟩ := T4.keep hL2 rL2 oL2
          have g1 : Good p EX (Rr p.K) R0 H0 O0 σ Q (bd (if b' = true then bdn (bd (frz (E ρ2)) dat) fun e ρ3 => if es.length < sizeLine ∧ plainAt ρ3 vs = true then lcL T C E vs (ds.drop (i + 1)) (es ++ [e]) (wipeR ρ3 vs) else .bad
            else if plainAt ρ2 vs = true then lcL T C E vs (ds.drop (i + 1)) es (wipeR ρ2 vs) else .bad) Fin) := g1
          cases b' with
          | false =>
            show ∃ R' O' ρ' acc' es', _
            rw [if_neg Bool.false_ne_true] at g1
            split at g1
            · rename_i pl2
              have S5 := wipe_ok S4 vs pl2
              rw [wσ] at S5
              exact ⟨R4, O4, _, acc, es, S5, ⟨by rw [wipeR_len, S4.len]; exact lw, wipeR_un⟩, T3.trans T4, hL4, rL4, oL4, dpAll_mono (fun b o e => T4.r b o (T2.r b o e)) _ _ dL, g1⟩
            · exact g1.elim
          | true =>
            show te σ2 H4 _
            rw [if_pos rfl] at g1
            refine (he.op.dat) R4 H4 O4 σ2 ρ2 _ S4 ?_
            show Good p EX0 _ R4 H4 O4 σ2 _ (bd (frz (E ρ2)) dat)
            cases qe : bd (frz (E ρ2)) dat with
            | bad => rw [qe] at g1; exact g1
            | ex t d ρ' => rw [qe] at g1; exact g1.elim
            | ok e ρ3 =>
              rw [qe] at g1
              intro y R5 H5 O5 S5 T5 hy'
              obtain ⟨hL5, rL5, oL5⟩ := T5.keep hL4 rL4 oL4
              have g1 : Good p EX (Rr p.K) R0 H0 O0 σ Q (bd (if es.length < sizeLine ∧ plainAt ρ3 vs = true then lcL T C E vs (ds.drop (i + 1)) (es ++ [e]) (wipeR ρ3 vs) else .bad) Fin) := g1
              split at g1
              · rename_i hz
                have dL5 : DpAll p.K R5 acc es := dpAll_mono (fun b o e => T5.r b o (T4.r b o (T2.r b o e))) _ _ dL
                have S6 := wipe_ok (S5.aside (.lst (acc ++ [y])) rL5 oL5 hL5) vs hz.2
                rw [wσ] at S6
                exact ⟨acc, hL5, by rw [dpAll_len dL5]; exact hz.1, R5, O5, _, acc ++ [y], es ++ [e], S6, ⟨by rw [wipeR_len, S5.len]; exact lw, wipeR_un⟩, ((T3.trans T4).trans T5).aside _ hL, upd_same, rL5, oL5, dpAll_app dL5 (.cons hy' .nil), g1⟩
              · exact g1.elim
    · rw [List.drop_eq_nil_of_le (by omega)] at g1
      refine .inl ⟨j2 i (by omega), ?_⟩
      have S6 := wide S hl0 hun
      have S9 := unwipe_ok S0 T0 S6 vs
      have S7 : Stt p R H (fun b => O b ∨ b = L) σ ρ := by
        exact ⟨S6.sub, fun b ob => ob.elim (S6.dis b) (fun z => by subst z; exact rL1), fun b ob => ob.elim (S6.al b) (fun z => by subst z; rw [hL1]; exact (fun z => nomatch z)), S6.len, S6.im, fun i b ds e => by
          obtain ⟨c, ws, e1, e2, e3⟩ := S6.ow i b ds e
          exact ⟨c, ws, e1, .inl e2, e3⟩, S6.pn, S6.inj, fun i tag d e => by
          obtain ⟨e1, e2, dd, v, e3, e4, e5, e6⟩ := S6.xn i tag d e
          exact ⟨e1, e2, dd, v, e3, (fun z => z.elim e4 (fun z => by subst z; rw [hL1] at e5; cases e5)), e5, e6⟩⟩
      have T7 : Tr R0 H0 O0 R H (fun b => O b ∨ b = L) := ⟨T0.r, T0.h, T0.nw, fun b ob => ob.elim (T0.o b) fun z => by subst z; exact .inr hL, T0.k⟩
      have S8 := unwipe_ok S0 T7 S7 vs
      refine g1 _ R H _ S8 T7 ⟨L, acc, rfl, .inr rfl, hL1, dL, fun i b es e e2 => ?_⟩
      obtain ⟨c, ws, e1, e3, e4, _⟩ := S9.ow i b es e
      rw [e1] at e2; cases e2
      exact oL1 e3
  · exact g0.elim
end VL

namespace VL
open PySem PySem.Spec PyProof.Rows L2

/-! ### what a def does to data -/
inductive Fo where
  | bad
  | rt (v : Rs) (as : List Sl)
  | ex (tag : Nat) (d : D) (as : List Sl)
def pinOf (vs : List V) : Nat → V := fun i => (vs[i]?).getD .non
def pmF (K : PySem.W.Frag) (xc : Nat → Addr) (vs : List V) : Pm := ⟨K, xc, pinOf vs, 0, .none, none⟩
def GoodF (K : PySem.W.Frag) (xc : Nat → Addr) (R H : Hp) (O : As) (vs : List V) (Q : VK) (E : XK) : Fo → Prop
  | .bad => False
  | .rt r as => ∀ v R' H' O', Stt (pmF K xc vs) R' H' O' (vs.map some) as → Tr R H O R' H' O' → Rr K R' H' O' (vs.map some) as v r → Q v H'
  | .ex tag d as => ∀ dx v R' H' O', Stt (pmF K xc vs) R' H' O' (vs.map some) as → Tr R H O R' H' O' → H dx = none → H' dx = some (.xd [(atS, v)]) → ¬ O' dx → Dp K R' v d → E (.ref (xc tag)) (some dx) H'
def spF (n : Nat) (K : PySem.W.Frag) (xc : Nat → Addr) (m : List Sl → Fo) : Sp := fun vs H Q E => vs.length = n ∧ ∃ R O args, Stt (pmF K xc vs) R H O (vs.map some) args ∧ GoodF K xc R H O vs Q E (m args)
def keepPin : Option Sl → Sl
  | some (.ow true ds) => .ow true ds
  | _ => .un
def outA (n : Nat) (ρ : Rho) : List Sl := (List.range n).map fun i => keepPin ρ[i]?
/-- a body's end as the def's -/
def retV (ρ : Rho) (r : Rs) : Option Rs := match r with
  | .im d => some (.im d)
  | .fr ds => some (.fr ds)
  | .sl i => match ρ[i]? with
    | some (.ow false ds) => some (.fr ds)
    | _ => none
def ofSo (n : Nat) : So → Fo
  | .nx ρ => .rt (.im .none) (outA n ρ)
  | .rt r ρ => match retV ρ r with
    | some r' => .rt r' (outA n ρ)
    | none => .bad
  | .ex tag d ρ => .ex tag d (outA n ρ)
  | _ => .bad
def unS (k : Nat) : List Sl := List.replicate k .un
def mF (n k : Nat) (G : Rho → So) : List Sl → Fo := fun args => ofSo n (G (args ++ unS k))

theorem get_app_un {args : List Sl} {k i : Nat} {y : Sl} (h : (args ++ unS k)[i]? = some y) (hy : y ≠ .un) : args[i]? = some y ∧ i < args.length := by
  by_cases hi : i < args.length
  · rw [List.getElem?_append_left hi] at h; exact ⟨h, hi⟩
  · rw [List.getElem?_append_right (by omega)] at h
    unfold unS at h
    rw [List.getElem?_replicate] at h
    split at h
    · exact absurd (Option.some.inj h).symm hy
    · cases h
theorem stt_start {p : Pm} {R H : Hp} {O : As} {vs : List V} {args : List Sl} {N : List Str} {k : Nat} (S : Stt p R H O (vs.map some) args) (hk : N.length - vs.length = k) : Stt p R H O (L2.start N vs) (args ++ unS k) := by
  have hl : args.length = vs.length := by have := S.len; rw [List.length_map] at this; exact this
  have g : ∀ {i : Nat}, i < args.length → (L2.start N vs)[i]? = (vs.map some)[i]? := fun {i} hi => by
    unfold L2.start; rw [List.getElem?_append_left (by rw [List.length_map]; omega)]
  refine ⟨S.sub, S.dis, S.al, ?_, fun i d e => ?_, fun i b ds e => ?_, fun i y w e hw => ?_, fun i j b c ds es a e1 e2 q1 q2 => ?_, fun i tag d e => ?_⟩
  · unfold L2.start unS
    rw [List.length_append, List.length_append, List.length_replicate, List.length_replicate, List.length_map, hl, hk]
  · obtain ⟨e, hi⟩ := get_app_un e (fun z => nomatch z); rw [g hi]; exact S.im i d e
  · obtain ⟨e, hi⟩ := get_app_un e (fun z => nomatch z); rw [g hi]; exact S.ow i b ds e
  · obtain ⟨e, hi⟩ := get_app_un e (fun z => by subst z; cases hw); rw [g hi]; exact S.pn i y w e hw
  · obtain ⟨e1, h1⟩ := get_app_un e1 (fun z => nomatch z)
    obtain ⟨e2, h2⟩ := get_app_un e2 (fun z => nomatch z)
    rw [g h1] at q1; rw [g h2] at q2; exact S.inj i j b c ds es a e1 e2 q1 q2
  · obtain ⟨e, hi⟩ := get_app_un e (fun z => nomatch z); rw [g hi]; exact S.xn i tag d e
theorem get_kp {ρ : Rho} {n i : Nat} {y : Sl} (h : (outA n ρ)[i]? = some y) (hy : y ≠ .un) : ∃ ds, y = .ow true ds ∧ ρ[i]? = some (.ow true ds) ∧ i < n := by
  unfold outA at h
  rw [List.getElem?_map] at h
  by_cases hi : i < n
  · rw [List.getElem?_range hi] at h
    have h : keepPin ρ[i]? = y := Option.some.inj h
    unfold keepPin at h
    split at h
    · rename_i ds e; exact ⟨ds, h.symm, e, hi⟩
    · exact (hy h.symm).elim
  · rw [List.getElem?_eq_none (by rw [List.length_range]; omega)] at h; cases h
theorem stt_end {K : PySem.W.Frag} {xc : Nat → Addr} {R H : Hp} {O : As} {vs : List V} {σ : Sg} {ρ : Rho} (S : Stt (pmF K xc vs) R H O σ ρ) : Stt (pmF K xc vs) R H O (vs.map some) (outA vs.length ρ) := by
  have pg : ∀ {i : Nat}, i < vs.length → (vs.map some)[i]? = some (some (pinOf vs i)) := fun {i} hi => by
    rw [List.getElem?_map, List.getElem?_eq_getElem hi]
    unfold pinOf
    rw [List.getElem?_eq_getElem hi]; rfl
  refine ⟨S.sub, S.dis, S.al, by unfold outA; rw [List.length_map, List.length_range, List.length_map], fun i d e => ?_, fun i b ds e => ?_, fun i y w e hw => ?_, fun i j b c ds es a e1 e2 q1 q2 => ?_, fun i tag d e => ?_⟩
  · obtain ⟨ds, z, _⟩ := get_kp e (fun z => nomatch z); cases z
  · obtain ⟨ds', z, e1, hi⟩ := get_kp e (fun z => nomatch z)
    cases z
    obtain ⟨a, ws, q1, q2⟩ := S.ow i true ds e1
    have q3 := S.pn1 i ds e1
    rw [q1] at q3
    exact ⟨a, ws, by rw [pg hi]; exact q3.symm, q2⟩
  · obtain ⟨ds', z, e1, hi⟩ := get_kp e (fun z => by subst z; cases hw)
    subst z
    cases hw
    exact pg hi
  · obtain ⟨ds', z1, f1, hi⟩ := get_kp e1 (fun z => nomatch z)
    obtain ⟨ds2, z2, f2, hj⟩ := get_kp e2 (fun z => nomatch z)
    cases z1; cases z2
    have p1 := S.pn1 i ds f1
    have p2 := S.pn1 j es f2
    rw [pg hi] at q1; rw [pg hj] at q2
    exact S.inj i j true true ds es a f1 f2 (p1.trans q1) (p2.trans q2)
  · obtain ⟨ds, z, _⟩ := get_kp e (fun z => nomatch z); cases z
/-- what the body's reading wants, from what the def's end is worth -/
theorem goodS_of {K : PySem.W.Frag} {xc : Nat → Addr} {R H : Hp} {O : As} {vs : List V} {Q : VK} {E : XK} {o : So} (g : GoodF K xc R H O vs Q E (ofSo vs.length o)) : GoodS (pmF K xc vs) (fun cls d _ H => E cls d H) R H O { nx := fun _ H' => Q .non H', rt := Q } o := by
  cases o with
  | bad => exact g
  | bk ρ => exact g.elim
  | ct ρ => exact g.elim
  | nx ρ => exact fun σ' R' H' O' S' T' => g .non R' H' O' (stt_end S') T' .non
  | ex t d ρ => exact fun dx v σ' R' H' O' S' T' => g dx v R' H' O' (stt_end S') T'
  | rt r ρ =>
    intro v σ' R' H' O' S' T' hr
    have Se := stt_end S'
    have g : GoodF K xc R H O vs Q E (match retV ρ r with | some r' => .rt r' (outA vs.length ρ) | none => .bad) := g
    have apart : ∀ {a : Addr}, (∀ (i : Nat) es, ρ[i]? = some (.ow true es) → σ'[i]? ≠ some (some (.ref a))) → ∀ (i : Nat) b es, (outA vs.length ρ)[i]? = some (.ow b es) → (vs.map some)[i]? ≠ some (some (.ref a)) := fun {a} h i b es e q => by
      obtain ⟨ds, z, e1, hi⟩ := get_kp e (fun z => nomatch z)
      have p1 := S'.pn1 i ds e1
      obtain ⟨c, ws, q1, _⟩ := Se.ow i b es e
      rw [q1] at q; cases q
      have p2 := Se.pn1 i ds (by rw [← z]; exact e)
      rw [q1] at p2
      exact h i ds e1 (p1.trans p2.symm)
    cases r with
    | im d => exact g v R' H' O' Se T' hr
    | fr ds =>
      obtain ⟨a, ws, rfl, oa, ha, hd, un⟩ := hr
      exact g _ R' H' O' Se T' ⟨a, ws, rfl, oa, ha, hd, apart fun i es e => un i true es e⟩
    | sl i =>
      unfold retV at g
      dsimp only at g
      split at g
      · rename_i r' er
        split at er
        · rename_i ds e
          cases Option.some.inj er
          obtain ⟨b, ds', _, e1⟩ := hr
          obtain ⟨a, ws, q1, oa, ha, hd⟩ := S'.ow i false ds e
          rw [q1] at e1
          cases Option.some.inj (Option.some.inj e1)
          refine g _ R' H' O' Se T' ⟨a, ws, rfl, oa, ha, hd, apart fun j es e2 q2 => ?_⟩
          have := S'.inj i j false true ds es a e e2 q1 q2
          subst this
          rw [e] at e2; cases e2
        · cases er
      · exact g.elim
section
variable {P : Program} {w : World} {K : PySem.W.Frag} {mg : Str → Option Value} {base : Heap}
/-- a def by its body's reading -/
theorem fn_sem {x qual : Str} {st : Stmt} {f : Addr} {fd : FuncData} {N ps : List Str} {k n u : Nat} {xc : Nat → Addr} {G : Rho → So} (F : Fun K x qual st f fd) (S : FnScope N ps (defScope st)) (hn : ps.length = n) (hu : N.length - n = u)
    (body : ∀ (cd : Value) (A : Around) (o : List Env) (s : Shared) (H : Hp) (E : XK), A.guards = some [] → Room k (A.deeper (envOfC qual (defScope st) s.heap.objs.size f cd)) →
      ∃ t, PSs (cxOf (L2.CX P w) P w K mg base N qual (defScope st) f cd A o s H E) (defBody st) t ∧ ∀ vs, SemS (pmF K xc vs) (fun cls d _ H => E cls d H) t G) : FnG P w K mg base (k + 1) f fd ps (spF n K xc (mF n u G)) := by
  refine fng_of F S (fun vs H Q E h => h.1.trans hn.symm) fun cd A o s H vs Q E hg hr h => ?_
  obtain ⟨hl, R, O, args, S0, g⟩ := h
  obtain ⟨t, ht, hs⟩ := body cd A o s H E hg hr
  refine ⟨t, ht, ?_⟩
  have Ss := stt_start (N := N) (k := u) S0 (by rw [hl]; exact hu)
  refine hs vs R H O _ _ _ Ss (goodS_of (by rw [hl]; exact g))
end

/-! ### calls -/
theorem stt_args {K : PySem.W.Frag} {xc : Nat → Addr} {R H : Hp} (m : ∀ b o, R b = some o → H b = some o) : ∀ {vs : List V} {ds : List D}, DpAll K R vs ds → Stt (pmF K xc vs) R H (fun _ => False) (vs.map some) (ds.map .im) := by
  intro vs ds h
  have hl := dpAll_len h
  refine ⟨m, fun _ z => z.elim, fun _ z => z.elim, by rw [List.length_map, List.length_map]; exact hl.symm, fun i d e => ?_, fun i b es e => ?_, fun i y w e hw => ?_, fun i j b c ds' es a e1 _ _ _ => ?_, fun i tag d e => ?_⟩
  · rw [List.getElem?_map] at e
    cases q : ds[i]? with
    | none => rw [q] at e; cases e
    | some d' =>
      rw [q] at e
      cases Option.some.inj e
      obtain ⟨v, e1, h1⟩ := dpAll_get h q
      exact ⟨v, by rw [List.getElem?_map, e1]; rfl, h1⟩
  all_goals
    first
      | (rw [List.getElem?_map] at e; cases q : ds[i]? with
          | none => rw [q] at e; cases e
          | some d' => rw [q] at e; cases Option.some.inj e; first | done | cases hw)
      | (rw [List.getElem?_map] at e1; cases q : ds[i]? with
          | none => rw [q] at e1; cases e1
          | some d' => rw [q] at e1; cases Option.some.inj e1)
/-- the caller's state behind a call that owned Oc -/
theorem Stt.behind {p : Pm} {R H R' H' : Hp} {O Oc O' : As} {σ : Sg} {ρ : Rho} (S : Stt p R H O σ ρ) (le : ∀ b, Oc b → O b) (T : Tr R H Oc R' H' O') (dis : ∀ b, O' b → R' b = none) (al : ∀ b, O' b → H' b ≠ none) (sub : ∀ b o, R' b = some o → H' b = some o) (hOc : ∀ b, Oc b → O' b)
    (hd : ∀ (i : Nat) b ds a, ρ[i]? = some (.ow b ds) → σ[i]? = some (some (.ref a)) → Oc a → (∃ vs, H' a = some (.lst vs) ∧ DpAll p.K R' vs ds ∧ O' a)) : Stt p R' H' (fun b => O b ∨ O' b) σ ρ := by
  have dOc : ∀ b, Oc b → ¬ O' b → H' b ≠ none := fun b ob _ => T.k b (S.al b (le b ob))
  refine ⟨sub, fun b ob => ?_, fun b ob => ob.elim (fun z => T.k b (S.al b z)) (al b), S.len, fun i d e => ?_, fun i b ds e => ?_, S.pn, S.inj, fun i tag d e => ?_⟩
  · rcases ob with ob | ob
    · by_cases hc : O' b
      · exact dis b hc
      · cases q : R' b with
        | none => rfl
        | some o =>
          rcases T.nw b (by rw [q]; exact fun z => nomatch z) with z | z | z
          · exact (z (S.dis b ob)).elim
          · exact (S.al b ob z).elim
          · exact (hc (hOc b z)).elim
    · exact dis b ob
  · obtain ⟨v, e1, e2⟩ := S.im i d e; exact ⟨v, e1, T.dp e2⟩
  · obtain ⟨a, vs, e1, e2, e3, e4⟩ := S.ow i b ds e
    by_cases hc : Oc a
    · obtain ⟨ws, q1, q2, q3⟩ := hd i b ds a e e1 hc
      exact ⟨a, ws, e1, .inl e2, q1, q2⟩
    · exact ⟨a, vs, e1, .inl e2, T.h a _ e3 hc, T.dps e4⟩
  · obtain ⟨e1, e2, dd, v, e3, e4, e5, e6⟩ := S.xn i tag d e
    refine ⟨e1, e2, dd, v, e3, fun z => z.elim e4 fun z => ?_, T.h dd _ e5 fun z => e4 (le dd z), T.dp e6⟩
    rcases T.o dd z with y | y
    · exact e4 (le dd y)
    · rw [e5] at y; cases y
/-- a def's end in the caller -/
def foE (n : Nat) (m : List Sl → Fo) (ds : List D) (ρ : Rho) : Ou Rs := if ds.length = n then match m (ds.map .im) with
  | .rt (.im d) _ => .ok (.im d) ρ
  | .rt (.fr es) _ => .ok (.fr es) ρ
  | .ex tag d _ => .ex tag d ρ
  | _ => .bad else .bad
theorem call_d {p : Pm} {EX : WX} {n : Nat} {m : List Sl → Fo} {R H : Hp} {O : As} {σ : Sg} {ρ : Rho} {vs : List V} {ds : List D} {Q : VK} (S : Stt p R H O σ ρ) (hv : DpAll p.K R vs ds) (g : Good p EX (Rr p.K) R H O σ Q (foE n m ds ρ)) :
    spF n p.K p.xc m vs H Q (fun cls d G => EX cls d σ G) := by
  unfold foE at g
  split at g
  · rename_i hn
    refine ⟨by rw [dpAll_len hv]; exact hn, R, fun _ => False, ds.map .im, stt_args S.sub hv, ?_⟩
    have back : ∀ {R' H' : Hp} {O' : As} {as : List Sl}, Stt (pmF p.K p.xc vs) R' H' O' (vs.map some) as → Tr R H (fun _ => False) R' H' O' → Stt p R' H' (fun b => O b ∨ O' b) σ ρ ∧ Tr R H O R' H' (fun b => O b ∨ O' b) := fun {R' H' O' as} S' T' =>
      ⟨S.behind (fun _ z => z.elim) T' S'.dis S'.al S'.sub (fun _ z => z.elim) fun _ _ _ _ _ _ z => z.elim, T'.more fun _ z => z.elim⟩
    cases e : m (ds.map .im) with
    | bad => rw [e] at g; exact g.elim
    | ex tag d as =>
      rw [e] at g
      intro dx v R' H' O' S' T' fx hx no hd
      obtain ⟨S2, T2⟩ := back S' T'
      exact g dx v R' H' _ S2 T2 fx hx (fun z => z.elim (fun z => S.al dx z fx) no) hd
    | rt r as =>
      rw [e] at g
      cases r with
      | sl i => exact g.elim
      | im d =>
        intro v R' H' O' S' T' hr
        obtain ⟨S2, T2⟩ := back S' T'
        exact g v R' H' _ S2 T2 hr
      | fr es =>
        intro v R' H' O' S' T' hr
        obtain ⟨S2, T2⟩ := back S' T'
        obtain ⟨a, ws, rfl, oa, ha, hd, _⟩ := hr
        refine g _ R' H' _ S2 T2 ⟨a, ws, rfl, .inr oa, ha, hd, fun i b es' e1 e2 => ?_⟩
        obtain ⟨c, ys, q1, q2, q3, _⟩ := S.ow i b es' e1
        rw [q1] at e2; cases e2
        rcases T'.o a oa with z | z
        · exact z
        · rw [q3] at z; cases z
  · exact g.elim
end VL

namespace VL
open PySem PySem.Spec PyProof.Rows L2
/-- what is raised is wished for at the slots -/
abbrev atE (EX : WX) : Sg → XK := fun σ cls d G => EX cls d σ G
def clF (n : Nat) (m : List Sl → Fo) (F : Rho → Ou (List D)) : Rho → Ou Rs := fun ρ => bd (F ρ) (foE n m)
theorem sem_cl {p : Pm} {EX : WX} {n : Nat} {m : List Sl → Fo} {t : TA} {F : Rho → Ou (List D)} (h : SemAD p EX t F) : SemE p EX (tCl (spF n p.K p.xc m) (atE EX) t) (clF n m F) :=
  Sem.bind (k := fun vs σ H Q => spF n p.K p.xc m vs H Q (fun cls d G => EX cls d σ G)) h fun R H O σ ρ vs ds Q S hv g => call_d S hv g
/-- in another order -/
def gP {α : Type} (π : List Nat) (np nk : Nat) (us ws : List α) : List α := if us.length = np ∧ ws.length = nk then π.filterMap fun i => (us ++ ws)[i]? else []
theorem gP_rel {α β : Type} {r : List α → List β → Prop} (rn : r [] []) {one : α → β → Prop} (rc : ∀ a b as bs, one a b → r as bs → r (a :: as) (b :: bs)) {us : List α} {xs : List β}
    (hg : ∀ (i : Nat), us[i]? = none ∧ xs[i]? = none ∨ ∃ a b, us[i]? = some a ∧ xs[i]? = some b ∧ one a b) : ∀ π : List Nat, r (π.filterMap fun i => us[i]?) (π.filterMap fun i => xs[i]?)
  | [] => rn
  | i :: π => by
    have ih := gP_rel rn rc hg π
    rcases hg i with ⟨e1, e2⟩ | ⟨a, b, e1, e2, h⟩
    · rw [List.filterMap_cons_none e1, List.filterMap_cons_none e2]; exact ih
    · rw [List.filterMap_cons_some e1, List.filterMap_cons_some e2]; exact rc _ _ _ _ h ih
theorem gP_dp {K : PySem.W.Frag} {R : Hp} {us ws : List V} {xs ys : List D} (π : List Nat) (np nk : Nat) (h : DpAll K R us xs) (k : DpAll K R ws ys) : DpAll K R (gP π np nk us ws) (gP π np nk xs ys) := by
  have hh := dpAll_app h k
  unfold gP
  rw [dpAll_len h, dpAll_len k]
  split
  · refine gP_rel (r := DpAll K R) (one := Dp K R) .nil (fun _ _ _ _ a b => .cons a b) (fun i => ?_) π
    cases e : (us ++ ws)[i]? with
    | none => exact .inl ⟨rfl, List.getElem?_eq_none (by rw [← dpAll_len hh]; exact List.getElem?_eq_none_iff.mp e)⟩
    | some v => obtain ⟨d, e1, e2⟩ := dpAll_getV hh e; exact .inr ⟨v, d, rfl, e1, e2⟩
  · exact .nil
theorem gP_vals {us ws : List V} {xs ys : List Value} (π : List Nat) (np nk : Nat) (h : Vals us xs) (k : Vals ws ys) : Vals (gP π np nk us ws) (gP π np nk xs ys) := by
  have hh := h.append k
  unfold gP
  rw [h.length, k.length]
  split
  · refine gP_rel (r := Vals) (one := RelV) .nil (fun _ _ _ _ a b => .cons a b) (fun i => ?_) π
    cases e : (us ++ ws)[i]? with
    | none => exact .inl ⟨rfl, Vals.none_of hh e⟩
    | some v => obtain ⟨d, e1, e2⟩ := Vals.get hh e; exact .inr ⟨v, d, rfl, e1, e2⟩
  · exact .nil
theorem kb_of {K : PySem.W.Frag} {x qual : Str} {st : Stmt} {f : Addr} {fd : FuncData} {ps ks : List Str} (F : Fun K x qual st f fd) (π : List Nat) (np nk : Nat) (hp : 0 < ps.length)
    (h : ∀ (kV doc pm : Value) (an : Option Addr) (cdv ct : Value) (us ws : List Value), us.length = np → ws.length = nk → bindArgs (PySem.W.fnOf x qual (defArgs st) (defBody st) (defScope st) .none kV doc pm an cdv ct) ⟨us, ks.zip ws⟩ = pure (ps.zip (π.filterMap fun i => (us ++ ws)[i]?))) :
    KBinds K fd ps ks (gP π np nk) (gP π np nk) := by
  obtain ⟨oc, od, kV, doc, pm, an, cdv, ct, osl, rfl, lk, hcd⟩ := F.ex
  refine ⟨fun s us ws X hl => ?_, fun a b => gP_vals π np nk a b⟩
  unfold gP at hl ⊢
  split at hl
  · rename_i hh
    rw [if_pos hh]
    exact BindsTo.of_eq (h kV doc pm an cdv ct us ws hh.1 hh.2)
  · rw [List.length_nil] at hl; omega
def clKF (n : Nat) (m : List Sl → Fo) (π : List Nat) (np nk : Nat) (F G : Rho → Ou (List D)) : Rho → Ou Rs := fun ρ => bd (F ρ) fun ds ρ1 => bd (G ρ1) fun es ρ2 => foE n m (gP π np nk ds es) ρ2
theorem Sem.use {α β : Type} {p : Pm} {EX : WX} {rel : Hp → Hp → As → Sg → Rho → β → α → Prop} {t : Sg → Hp → (β → Hp → Prop) → Prop} {F : Rho → Ou α} (h : Sem p EX rel t F) {γ δ : Type} {rel2 : Hp → Hp → As → Sg → Rho → δ → γ → Prop} {G : α → Rho → Ou γ}
    {R H : Hp} {O : As} {σ : Sg} {ρ : Rho} {Q : δ → Hp → Prop} {k : β → Hp → Prop} (S : Stt p R H O σ ρ) (g : Good p EX rel2 R H O σ Q (bd (F ρ) G))
    (hk : ∀ R' H' O' ρ' b a, Stt p R' H' O' σ ρ' → Tr R H O R' H' O' → rel R' H' O' σ ρ' b a → Good p EX rel2 R' H' O' σ Q (G a ρ') → k b H') : t σ H k := by
  refine h R H O σ ρ k S ?_
  cases e : F ρ with
  | bad => rw [e] at g; exact g.elim
  | ok a ρ' => rw [e] at g; exact fun b R' H' O' S' T' r' => hk R' H' O' ρ' b a S' T' r' (Good.tr T' g)
  | ex tag d ρ' => rw [e] at g; exact g
theorem Sem.useS {α β : Type} {p : Pm} {EX : WX} {rel : Hp → Hp → As → Sg → Rho → β → α → Prop} {t : Sg → Hp → (β → Hp → Prop) → Prop} {F : Rho → Ou α} (h : Sem p EX rel t F) {G : α → Rho → So}
    {R H : Hp} {O : As} {σ : Sg} {ρ : Rho} {E : Ends} {k : β → Hp → Prop} (S : Stt p R H O σ ρ) (g : GoodS p EX R H O E (bs (F ρ) G))
    (hk : ∀ R' H' O' ρ' b a, Stt p R' H' O' σ ρ' → Tr R H O R' H' O' → rel R' H' O' σ ρ' b a → GoodS p EX R' H' O' E (G a ρ') → k b H') : t σ H k := by
  refine h R H O σ ρ k S ?_
  cases e : F ρ with
  | bad => rw [e] at g; exact g.elim
  | ok a ρ' => rw [e] at g; exact fun b R' H' O' S' T' r' => hk R' H' O' ρ' b a S' T' r' (GoodS.tr T' g)
  | ex tag d ρ' => rw [e] at g; exact fun dx v R' H' O' => g dx v σ R' H' O'
theorem sem_clK {p : Pm} {EX : WX} {n : Nat} {m : List Sl → Fo} {π : List Nat} {np nk : Nat} {t u : TA} {F G : Rho → Ou (List D)} (h : SemAD p EX t F) (k : SemAD p EX u G) : SemE p EX (tClK (spF n p.K p.xc m) (atE EX) (gP π np nk) t u) (clKF n m π np nk F G) :=
  fun R H O σ ρ Q S g => h.use (G := fun ds ρ1 => bd (G ρ1) fun es ρ2 => foE n m (gP π np nk ds es) ρ2) S g fun R1 H1 O1 ρ1 vs ds S1 T1 hv g1 =>
    k.use (G := fun es ρ2 => foE n m (gP π np nk ds es) ρ2) S1 g1 fun R2 H2 O2 ρ2 ws es S2 T2 hw g2 => call_d S2 (gP_dp π np nk (T2.dps hv) hw) g2

/-! ### a slot's list given over, changed -/
theorem Stt.reown {p : Pm} {R H : Hp} {O : As} {σ : Sg} {ρ : Rho} {i : Nat} {b : Bool} {a : Addr} {ws : List V} {ys : List D} (S : Stt p R H O σ (ρ.set i .un)) (hi : σ[i]? = some (some (.ref a))) (oa : O a) (ha : H a = some (.lst ws)) (hd : DpAll p.K R ws ys)
    (un : ∀ (j : Nat) c es, (ρ.set i .un)[j]? = some (.ow c es) → σ[j]? ≠ some (some (.ref a))) (hp : b = true → σ[i]? = some (some (p.pin i))) : Stt p R H O σ (ρ.set i (.ow b ys)) := by
  have e0 : ∀ {j : Nat}, i ≠ j → (ρ.set i (.ow b ys))[j]? = (ρ.set i .un)[j]? := fun n => by rw [List.getElem?_set_ne n, List.getElem?_set_ne n]
  refine ⟨S.sub, S.dis, S.al, by have := S.len; rw [List.length_set] at this ⊢; exact this, fun j d e => ?_, fun j c ds e => ?_, fun j y w e hw => ?_, fun j k c c' ds es x e1 e2 q1 q2 => ?_, fun j tag d e => ?_⟩
  · rcases set_get e with ⟨_, z⟩ | ⟨n, z⟩
    · cases z
    · exact S.im j d (by rw [← e0 n]; exact e)
  · rcases set_get e with ⟨rfl, z⟩ | ⟨n, z⟩
    · cases z; exact ⟨a, ws, hi, oa, ha, hd⟩
    · exact S.ow j c ds (by rw [← e0 n]; exact e)
  · rcases set_get e with ⟨rfl, z⟩ | ⟨n, z⟩
    · subst z
      cases b with
      | false => cases hw
      | true => cases hw; exact hp rfl
    · exact S.pn j y w (by rw [← e0 n]; exact e) hw
  · rcases set_get e1 with ⟨rfl, z1⟩ | ⟨n1, z1⟩
    · rcases set_get e2 with ⟨rfl, z2⟩ | ⟨n2, z2⟩
      · rfl
      · rw [hi] at q1; cases q1
        exact (un k c' es (by rw [← e0 n2]; exact e2) q2).elim
    · rcases set_get e2 with ⟨rfl, z2⟩ | ⟨n2, z2⟩
      · rw [hi] at q2; cases q2
        exact (un j c ds (by rw [← e0 n1]; exact e1) q1).elim
      · exact S.inj j k c c' ds es x (by rw [← e0 n1]; exact e1) (by rw [← e0 n2]; exact e2) q1 q2
  · rcases set_get e with ⟨_, z⟩ | ⟨n, z⟩
    · cases z
    · exact S.xn j tag d (by rw [← e0 n]; exact e)
theorem Stt.sole {p : Pm} {R H : Hp} {O : As} {σ : Sg} {ρ : Rho} (S : Stt p R H O σ ρ) {i : Nat} {b : Bool} {xs : List D} {a : Addr} (e : ρ[i]? = some (.ow b xs)) (hi : σ[i]? = some (some (.ref a))) :
    ∀ (j : Nat) c es, (ρ.set i .un)[j]? = some (.ow c es) → σ[j]? ≠ some (some (.ref a)) := fun j c es z q => by
  rcases set_get z with ⟨_, y⟩ | ⟨n, y⟩
  · cases y
  · exact n (S.inj i j b c xs es a e y hi q)
/-- the slot's list holds other items -/
theorem Stt.mut {p : Pm} {R H : Hp} {O : As} {σ : Sg} {ρ : Rho} (S : Stt p R H O σ ρ) {i : Nat} {b : Bool} {xs ys : List D} {a : Addr} {vs ws : List V} (e : ρ[i]? = some (.ow b xs)) (hi : σ[i]? = some (some (.ref a))) (oa : O a) (ha : H a = some (.lst vs)) (hd : DpAll p.K R ws ys) :
    Stt p R (upd H a (.lst ws)) O σ (ρ.set i (.ow b ys)) ∧ Tr R H O R (upd H a (.lst ws)) O := by
  have na := S.dis a oa
  have S1 := S.put (i := i) (x := .un) (.inl rfl)
  have sole := S.sole e hi
  have S2 : Stt p R (upd H a (.lst ws)) O σ (ρ.set i .un) := by
    refine ⟨fun c o q => ?_, S1.dis, fun c oc => ?_, S1.len, S1.im, fun j c ds q => ?_, S1.pn, S1.inj, fun j tag d q => ?_⟩
    · rw [upd_ne (ne_of_none q na)]; exact S.sub c o q
    · by_cases z : c = a
      · subst z; rw [upd_same]; exact fun z => nomatch z
      · rw [upd_ne z]; exact S.al c oc
    · obtain ⟨c', zs, q1, q2, q3, q4⟩ := S1.ow j c ds q
      refine ⟨c', zs, q1, q2, ?_, q4⟩
      rw [upd_ne (show c' ≠ a from fun z => by subst z; exact sole j c ds q q1)]; exact q3
    · obtain ⟨q1, q2, dd, v, q3, q4, q5, q6⟩ := S1.xn j tag d q
      exact ⟨q1, q2, dd, v, q3, q4, by rw [upd_ne (ne_of q5 ha (by intro z; cases z))]; exact q5, q6⟩
  refine ⟨S2.reown hi oa upd_same hd sole fun hb => by subst hb; exact S.pn1 i xs e, ⟨fun _ _ q => q, fun c o q n => ?_, fun c q => .inl q, fun c q => .inl q, fun c q => ?_⟩⟩
  · rw [upd_ne (show c ≠ a from fun z => n (by rw [z]; exact oa))]; exact q
  · by_cases z : c = a
    · subst z; rw [upd_same]; exact fun z => nomatch z
    · rw [upd_ne z]; exact q
def MutV (K : PySem.W.Frag) (r : V → List V → Hp → VK → Prop) (μ : List D → List D → Option (D × List D)) : Prop := ∀ (R H : Hp) (a : Addr) (vs us : List V) (xs ds : List D) (d : D) (ys : List D) (Q : VK),
  (∀ b o, R b = some o → H b = some o) → H a = some (.lst vs) → DpAll K R vs xs → DpAll K R us ds → μ xs ds = some (d, ys) → (∀ v ws, DpAll K R ws ys → Dp K R v d → Q v (upd H a (.lst ws))) → r (.ref a) us H Q
def isOw (ρ : Rho) (i : Nat) : Bool := match ρ[i]? with
  | some (.ow _ _) => true
  | _ => false
def mutO (μ : List D → List D → Option (D × List D)) (i : Nat) (ds : List D) (ρ : Rho) : Ou Rs := match ρ[i]? with
  | some (.ow b xs) => match μ xs ds with
    | some (d, ys) => .ok (.im d) (ρ.set i (.ow b ys))
    | none => .bad
  | _ => .bad
def mutF (μ : List D → List D → Option (D × List D)) (i : Nat) (F : Rho → Ou (List D)) : Rho → Ou Rs := fun ρ => if isOw ρ i = true then bd (F ρ) (mutO μ i) else .bad
theorem mut_do {p : Pm} {EX : WX} {r : V → List V → Hp → VK → Prop} {μ : List D → List D → Option (D × List D)} (hm : MutV p.K r μ) {R H : Hp} {O : As} {σ : Sg} {ρ : Rho} {i : Nat} {v : V} {us : List V} {ds : List D} {Q : VK} (S : Stt p R H O σ ρ) (hi : σ[i]? = some (some v)) (hu : DpAll p.K R us ds)
    (g : Good p EX (Rr p.K) R H O σ Q (mutO μ i ds ρ)) : r v us H Q := by
  unfold mutO at g
  split at g
  · rename_i b xs e
    split at g
    · rename_i d ys em
      obtain ⟨a, vs, e1, oa, ha, hd⟩ := S.ow i b xs e
      rw [e1] at hi; cases hi
      refine hm R H a vs us xs ds d ys Q S.sub ha hd hu em fun v ws hw hv => ?_
      obtain ⟨S', T'⟩ := S.mut e e1 oa ha hw
      exact g v R _ O S' T' hv
    · exact g.elim
  · exact g.elim
theorem ow_ty {p : Pm} {R H : Hp} {O : As} {σ : Sg} {ρ : Rho} {i : Nat} (S : Stt p R H O σ ρ) (h : isOw ρ i = true) : ∃ a, σ[i]? = some (some (.ref a)) ∧ tyV p.K "list" (.ref a) H := by
  unfold isOw at h
  split at h
  · rename_i b ds e
    obtain ⟨a, vs, e1, oa, ha, hd⟩ := S.ow i b ds e
    exact ⟨a, e1, .inl ⟨rfl, _, .inl (.inl ha)⟩⟩
  · cases h
theorem sem_mut {p : Pm} {EX : WX} {r : V → List V → Hp → VK → Prop} {μ : List D → List D → Option (D × List D)} (hm : MutV p.K r μ) {i : Nat} {t : TA} {F : Rho → Ou (List D)} (h : SemAD p EX t F) : SemE p EX (tBM p.K "list" r (tVar i) t) (mutF μ i F) := by
  intro R H O σ ρ Q S g
  unfold mutF at g
  split at g
  · rename_i ho
    obtain ⟨a, e1, ty⟩ := ow_ty S ho
    exact ⟨_, e1, ty, h.use S g fun R' H' O' ρ' us ds S' T' hu g' => mut_do hm S' e1 hu g'⟩
  · exact g.elim
theorem sem_mut0 {p : Pm} {EX : WX} {r : V → List V → Hp → VK → Prop} {μ : List D → List D → Option (D × List D)} (hm : MutV p.K r μ) {i : Nat} : SemE p EX (tBM0 p.K "list" r (tVar i)) (mutF μ i nilD) := by
  intro R H O σ ρ Q S g
  unfold mutF at g
  split at g
  · rename_i ho
    obtain ⟨a, e1, ty⟩ := ow_ty S ho
    exact ⟨_, e1, ty, mut_do (EX := EX) hm S e1 .nil g⟩
  · exact g.elim
/-- append, pop, reverse, clear -/
def apD : List D → List D → Option (D × List D) := fun xs ds => match ds with
  | [d] => if xs.length < sizeLine then some (.none, xs ++ [d]) else none
  | _ => none
theorem mv_append {K : PySem.W.Frag} : MutV K rAppend apD := by
  intro R H a vs us xs ds d ys Q m ha hd hu e q
  unfold apD at e
  split at e
  · split at e
    · rename_i hz
      cases Option.some.inj e
      cases hu with
      | cons h1 h2 =>
        cases h2
        exact ⟨a, vs, _, rfl, rfl, ha, by rw [dpAll_len hd]; exact hz, q _ _ (dpAll_app hd (.cons h1 .nil)) .non⟩
    · cases e
  · cases e
def popD : List D → List D → Option (D × List D) := fun xs ds => match ds, xs[xs.length - 1]? with
  | [], some d => some (d, xs.dropLast)
  | _, _ => none
theorem mv_pop {K : PySem.W.Frag} : MutV K rPop popD := by
  intro R H a vs us xs ds d ys Q m ha hd hu e q
  unfold popD at e
  split at e
  · rename_i d' h1
    cases Option.some.inj e
    cases hu
    rw [← dpAll_len hd] at h1
    obtain ⟨v, e1, hv⟩ := dpAll_get hd h1
    exact ⟨a, vs, v, rfl, rfl, ha, e1, q v _ (dpAll_dropLast hd) hv⟩
  · cases e
def revD : List D → List D → Option (D × List D) := fun xs ds => match ds with
  | [] => some (.none, xs.reverse)
  | _ => none
theorem mv_reverse {K : PySem.W.Frag} : MutV K rReverse revD := by
  intro R H a vs us xs ds d ys Q m ha hd hu e q
  unfold revD at e
  split at e
  · cases Option.some.inj e
    cases hu
    exact ⟨a, vs, rfl, rfl, ha, q _ _ (dpAll_rev hd) .non⟩
  · cases e
/-- a call that changes the slot's list -/
def foI (n : Nat) (m : List Sl → Fo) (i : Nat) (ds : List D) (ρ : Rho) : Ou Rs := match ρ[i]? with
  | some (.ow b xs) => if ds.length + 1 = n then match m (.ow true xs :: ds.map .im) with
    | .rt (.im d) (.ow true ys :: _) => .ok (.im d) (ρ.set i (.ow b ys))
    | .rt (.fr es) (.ow true ys :: _) => .ok (.fr es) (ρ.set i (.ow b ys))
    | .ex tag d (.ow true ys :: _) => .ex tag d (ρ.set i (.ow b ys))
    | _ => .bad else .bad
  | _ => .bad
def clI (n : Nat) (m : List Sl → Fo) (i : Nat) (F : Rho → Ou (List D)) : Rho → Ou Rs := fun ρ => if isOw ρ i = true then bd (F ρ) (foI n m i) else .bad
theorem call_i {p : Pm} {EX : WX} {n : Nat} {m : List Sl → Fo} {R H : Hp} {O : As} {σ : Sg} {ρ : Rho} {i : Nat} {v : V} {vs : List V} {ds : List D} {Q : VK} (S : Stt p R H O σ ρ) (hi : σ[i]? = some (some v)) (hv : DpAll p.K R vs ds) (g : Good p EX (Rr p.K) R H O σ Q (foI n m i ds ρ)) :
    spF n p.K p.xc m (v :: vs) H Q (fun cls d G => EX cls d σ G) := by
  unfold foI at g
  split at g
  · rename_i b xs e
    split at g
    · rename_i hn
      obtain ⟨a, zs, e1, oa, ha, hd⟩ := S.ow i b xs e
      rw [e1] at hi; cases hi
      have S0 := stt_args (xc := p.xc) S.sub hv
      have S1 : Stt (pmF p.K p.xc (.ref a :: vs)) R H (fun c => c = a) ((V.ref a :: vs).map some) (.ow true xs :: ds.map .im) := by
        refine ⟨S.sub, fun c z => by subst z; exact S.dis c oa, fun c z => by subst z; exact S.al c oa, by have := S0.len; simp at this ⊢; exact this, fun j d q => ?_, fun j c es q => ?_, fun j y w q hw => ?_, fun j k c c' es fs x q1 q2 _ _ => ?_, fun j tag d q => ?_⟩
        · cases j with
          | zero => cases q
          | succ j => exact S0.im j d q
        · cases j with
          | zero => cases q; exact ⟨a, zs, rfl, rfl, ha, hd⟩
          | succ j => obtain ⟨_, _, _, z, _⟩ := S0.ow j c es q; exact z.elim
        · cases j with
          | zero => cases q; cases hw; rfl
          | succ j =>
            have q : (ds.map Sl.im)[j]? = some y := q
            rw [List.getElem?_map] at q
            cases qq : ds[j]? with
            | none => rw [qq] at q; cases q
            | some d' => rw [qq] at q; cases Option.some.inj q; cases hw
        · cases j with
          | zero => cases k with
            | zero => rfl
            | succ k => obtain ⟨_, _, _, z, _⟩ := S0.ow k c' fs q2; exact z.elim
          | succ j => obtain ⟨_, _, _, z, _⟩ := S0.ow j c es q1; exact z.elim
        · cases j with
          | zero => cases q
          | succ j => obtain ⟨_, _, _, _, z, _⟩ := S0.xn j tag d q; cases z
      refine ⟨by rw [List.length_cons, dpAll_len hv]; exact hn, R, _, _, S1, ?_⟩
      have sole := S.sole e e1
      have back : ∀ {R' H' : Hp} {O' : As} {ys : List D} {as : List Sl}, Stt (pmF p.K p.xc (.ref a :: vs)) R' H' O' ((V.ref a :: vs).map some) (.ow true ys :: as) → Tr R H (fun c => c = a) R' H' O' →
          Stt p R' H' (fun c => O c ∨ O' c) σ (ρ.set i (.ow b ys)) ∧ Tr R H O R' H' (fun c => O c ∨ O' c) := fun {R' H' O' ys as} S' T' => by
        obtain ⟨a', ws, q1, q2, q3, q4⟩ := S'.ow 0 true ys rfl
        cases (Option.some.inj (Option.some.inj q1) : V.ref a = V.ref a')
        have Sb := (S.put (i := i) (x := .un) (.inl rfl)).behind (fun c z => by subst z; exact oa) T' S'.dis S'.al S'.sub (fun c z => by subst z; exact q2) fun j c es x y1 y2 y3 => by
          subst y3; exact (sole j c es y1 y2).elim
        exact ⟨Sb.reown e1 (.inl oa) q3 q4 sole fun hb => by subst hb; exact S.pn1 i xs e, T'.more fun c z => by subst z; exact oa⟩
      cases em : m (.ow true xs :: ds.map .im) with
      | bad => rw [em] at g; exact g.elim
      | ex tag d as =>
        rw [em] at g
        cases as with
        | nil => exact g.elim
        | cons y as =>
          cases y with
          | un => exact g.elim
          | im d => exact g.elim
          | fv k => exact g.elim
          | xn t d => exact g.elim
          | ow c ys =>
            cases c with
            | false => exact g.elim
            | true =>
              intro dx w R' H' O' S' T' fx hx no hw
              obtain ⟨S2, T2⟩ := back S' T'
              exact g dx w R' H' _ S2 T2 fx hx (fun z => z.elim (fun z => S.al dx z fx) no) hw
      | rt r as =>
        rw [em] at g
        cases as with
        | nil => cases r <;> exact g.elim
        | cons y as =>
          cases y with
          | un => cases r <;> exact g.elim
          | fv k => cases r <;> exact g.elim
          | im d => cases r <;> exact g.elim
          | xn t d => cases r <;> exact g.elim
          | ow c ys =>
            cases c with
            | false => cases r <;> exact g.elim
            | true =>
              cases r with
              | sl j => exact g.elim
              | im d =>
                intro w R' H' O' S' T' hr
                obtain ⟨S2, T2⟩ := back S' T'
                exact g w R' H' _ S2 T2 hr
              | fr es =>
                intro w R' H' O' S' T' hr
                obtain ⟨S2, T2⟩ := back S' T'
                obtain ⟨x, ws, rfl, ox, hx, hd, un⟩ := hr
                refine g _ R' H' _ S2 T2 ⟨x, ws, rfl, .inr ox, hx, hd, fun j c es' y1 y2 => ?_⟩
                rcases set_get y1 with ⟨rfl, z⟩ | ⟨n, z⟩
                · rw [e1] at y2; cases y2
                  exact un 0 true ys rfl rfl
                · obtain ⟨c', ys', q1, q2, q3, _⟩ := S.ow j c es' z
                  rw [q1] at y2; cases y2
                  rcases T'.o x ox with z2 | z2
                  · subst z2; exact n (S.inj i j b c xs es' x e z e1 q1)
                  · rw [q3] at z2; cases z2
    · exact g.elim
  · exact g.elim
theorem sem_clI {p : Pm} {EX : WX} {n : Nat} {m : List Sl → Fo} {i : Nat} {t : TA} {F : Rho → Ou (List D)} (h : SemAD p EX t F) : SemE p EX (tCl (spF n p.K p.xc m) (atE EX) (tCons (tVar i) t)) (clI n m i F) := by
  intro R H O σ ρ Q S g
  unfold clI at g
  split at g
  · rename_i ho
    obtain ⟨a, e1, _⟩ := ow_ty S ho
    exact ⟨_, e1, h.use S g fun R' H' O' ρ' us ds S' T' hu g' => call_i S' e1 hu g'⟩
  · exact g.elim
/-- xs[i] = e -/
def setO (i : Nat) (d k : D) (ρ : Rho) : So := match ρ[i]?, k with
  | some (.ow b xs), .int k => match ixN xs.length k with
    | some j => .nx (ρ.set i (.ow b (xs.set j d)))
    | none => .bad
  | _, _ => .bad
def setS (i : Nat) (F G : Rho → Ou Rs) : Rho → So := fun ρ => bs (bd (frz (F ρ)) dat) fun d ρ1 => if isOw ρ1 i = true then bs (bd (frz (G ρ1)) dat) fun k ρ2 => setO i d k ρ2 else .bad
theorem sem_set {p : Pm} {EX : WX} {i : Nat} {te ti : TE} {F G : Rho → Ou Rs} (h : SemE p EX te F) (k : SemE p EX ti G) : SemS p EX (tAsg te (gSub (tVar i) ti rSetL)) (setS i F G) := by
  intro R H O σ ρ E S g
  refine h.op.dat.useS S g fun R1 H1 O1 ρ1 v d S1 T1 hv g1 => ?_
  split at g1
  · rename_i ho
    obtain ⟨a, e1, _⟩ := ow_ty S1 ho
    refine ⟨_, e1, k.op.dat.useS S1 g1 fun R2 H2 O2 ρ2 u kk S2 T2 hu g2 => ?_⟩
    unfold setO at g2
    split at g2
    · rename_i b xs kk e
      split at g2
      · rename_i j ej
        obtain ⟨c, vs, e2, oc, hc, hd⟩ := S2.ow i b xs e
        rw [e1] at e2; cases e2
        cases hu
        obtain ⟨S', T'⟩ := S2.mut e e1 oc hc (dpAll_set (T2.dp hv) j hd)
        exact ⟨a, vs, _, j, rfl, rfl, hc, by rw [dpAll_len hd]; exact ej, g2 σ R2 _ O2 S' T'⟩
      · exact g2.elim
    · exact g2.elim
  · exact g1.elim
theorem sem_aug {p : Pm} {EX : WX} {i : Nat} {te : TE} {F : Rho → Ou Rs} {r : R2} {f : D → D → Option Rs} (hf : OpV p.K r f) (h : SemE p EX te F) : SemS p EX (tAug i te r) (asgS i (opF f (varF i) F)) :=
  sem_asg (sem_op hf (sem_var i) h)
/-- while -/
def whileL (C : Rho → Ou Bool) (B : Rho → So) : Nat → Rho → So
  | 0, _ => .bad
  | n + 1, ρ => bs (C ρ) fun b ρ1 => if b = true then match B ρ1 with
    | .nx ρ2 => whileL C B n ρ2
    | .ct ρ2 => whileL C B n ρ2
    | .bk ρ2 => .nx ρ2
    | o => o else .nx ρ1
theorem sem_while {p : Pm} {EX : WX} {c : TT} {tb : TS} {C : Rho → Ou Bool} {B : Rho → So} (n : Rho → Nat) (hc : SemT p EX c C) (hb : SemS p EX tb B) : SemS p EX (tWhile c tb) (fun ρ => whileL C B (n ρ) ρ) := by
  intro R H O σ ρ E S g
  refine ⟨fun m σ' H' => ∃ R' O' ρ', Stt p R' H' O' σ' ρ' ∧ Tr R H O R' H' O' ∧ GoodS p EX R' H' O' E (whileL C B m ρ'), ⟨n ρ, R, O, ρ, S, .refl, g⟩, fun m σ1 H1 hW => ?_⟩
  obtain ⟨R1, O1, ρ1, S1, T1, g1⟩ := hW
  cases m with
  | zero => exact g1.elim
  | succ m =>
    refine hc.useS S1 g1 fun R2 H2 O2 ρ2 b a S2 T2 hb2 g2 => ?_
    subst hb2
    cases b with
    | false => exact g2 σ1 R2 H2 O2 S2 .refl
    | true =>
      rw [if_pos rfl] at g2
      have T3 := T1.trans T2
      refine ⟨fun σ' H' => ∃ R' O' ρ', Stt p R' H' O' σ' ρ' ∧ Tr R H O R' H' O' ∧ GoodS p EX R' H' O' E (whileL C B m ρ'), fun σ' H' h => ⟨m, by omega, h⟩, ?_⟩
      refine hb R2 H2 O2 σ1 ρ2 _ S2 ?_
      cases q : B ρ2 with
      | bad => rw [q] at g2; exact g2
      | nx ρ3 => rw [q] at g2; exact fun σ3 R3 H3 O3 S3 T4 => ⟨R3, O3, ρ3, S3, T3.trans T4, g2.tr T4⟩
      | ct ρ3 => rw [q] at g2; exact fun σ3 R3 H3 O3 S3 T4 => ⟨R3, O3, ρ3, S3, T3.trans T4, g2.tr T4⟩
      | bk ρ3 => rw [q] at g2; exact g2
      | rt r ρ3 => rw [q] at g2; exact g2
      | ex t d ρ3 => rw [q] at g2; exact g2
end VL

namespace VL
open PySem PySem.Spec PyProof.Rows L2
/-! ### machine: list.extend of a tuple, t[::1], t[::-1], repr -/
theorem ext_tup (l : Addr) (xs : Array Value) (n : Nat) (b : Addr) (ys : Array Value) (m : Nat) (dd : Option Addr) (sl : Array (Option Value)) (h0 : ¬(!xs.isEmpty && Builtin.List.listTooLong (xs.size + ys.size)) = true) (h1 : xs.size ≤ sizeLine) (h2 : xs.size + ys.size ≤ sizeLine + 1) :
    Meets (Builtin.«list.extend» ⟨[.ref l, .ref b], []⟩) (fun _ R s => s.heap.get? l = some { cls := .type "list", dict := none, data := .seq xs n, slots := #[] } ∧
      s.heap.get? b = some { cls := .type "tuple", dict := dd, data := .seq ys m, slots := sl } ∧ R (.ok (.ret Value.none)) { s with heap := s.heap.update l (Obj.mapSeq fun x => x ++ ys), toks := s.toks }) :=
  .of_wp fun prog w A R s h => by
    obtain ⟨hp, g, d, tk, os⟩ := s; obtain ⟨hl, hb, h⟩ := h
    have f1 := AutoSeq1.idx_int; have f2 := AutoSeq1.sub_tuple_tuple; have f3 := AutoSeq1.sub_list_list; have f4 := AutoSeq1.sub_tuple_list; have f5 := AutoSeq1.sub_list_tuple
    have hz : (xs ++ ys).size ≤ sizeLine + 1 := by rw [Array.size_append]; exact h2
    wp_walk using (wpAny_updateSeq hl rfl (hz := h1) (_hz' := hz)), wpAny_loadPart' hl, wpAny_loadPart' hb
    exact ⟨_, rfl, h⟩
section
variable {X : Cx}
def rExtT (K : PySem.W.Frag) : V → List V → Hp → VK → Prop := fun x vs H Q => ∃ l b xs zs, x = .ref l ∧ vs = [.ref b] ∧ H l = some (.lst xs) ∧ SqT K H b zs ∧ xs.length + zs.length ≤ sizeLine ∧ Q .non (upd H l (.lst (xs ++ zs)))
theorem mt_extT : MtM X "list.extend" (rExtT X.K) := by
  intro pins s σ H x vs v us Q I rx rv h
  obtain ⟨l, b, xs, zs, rfl, rfl, hH, hB, hz, q⟩ := h
  cases rx
  obtain ⟨u, rfl, ru⟩ := rv.one
  cases ru
  obtain ⟨z, its, n, r, hl, e⟩ := I.lstM hH
  obtain ⟨ys, ry, ⟨⟨cls, dd, data, sl⟩, ho, hc, m, hd⟩, hy⟩ := I.tuple hB
  have hc : cls = .type "tuple" := hc
  have hd : data = .seq ys.toArray m := hd
  subst hc hd
  have e1 := r.length
  have e2 := ry.length
  have hs : its.toArray.size + ys.toArray.size ≤ sizeLine := by rw [List.size_toArray, List.size_toArray]; omega
  refine call_meets F.slot_list_extend ⟨_, e, rfl⟩ F.entry_list_extend (F.args_list_extend_2 _ _)
    (ext_tup l its.toArray n b ys.toArray m dd sl (by rw [notLongL hs, Bool.and_false]; exact Bool.false_ne_true) (by rw [List.size_toArray]; omega) (by omega)) ⟨e, ho, ?_⟩
  exact ⟨.non, _, I.lset (its' := its ++ ys) hH e (by simp) (r.append ry) (by rw [List.length_append]; omega), rfl, q⟩
/-- list.extend of a list or a tuple -/
def rExt (K : PySem.W.Frag) : V → List V → Hp → VK → Prop := fun x vs H Q => rExtend x vs H Q ∨ rExtT K x vs H Q
theorem mt_ext : MtM X "list.extend" (rExt X.K) := fun pins s σ H x vs v us Q I rx rv h => h.elim (mt_extend pins s σ H x vs v us Q I rx rv) (mt_extT pins s σ H x vs v us Q I rx rv)
theorem places_up (n : Nat) : Builtin.Slice.slicePlaces 0 (n : Int) 1 = n := by
  unfold Builtin.Slice.slicePlaces
  rw [if_pos (by decide : (1 : Int) > 0), Int.ediv_one]
  by_cases h : (0 : Int) < (n : Int)
  · rw [if_pos h]; omega
  · rw [if_neg h]; omega
theorem places_down (n : Nat) : Builtin.Slice.slicePlaces ((n : Int) - 1) (-1) (-1) = n := by
  unfold Builtin.Slice.slicePlaces
  rw [if_neg (by decide : ¬ (-1 : Int) > 0), show (- -1 : Int) = 1 from rfl, Int.ediv_one]
  by_cases h : (n : Int) - 1 > -1
  · rw [if_pos h]; omega
  · rw [if_neg h]; omega
theorem pick_down (xs : Array Value) : ((List.range xs.size).filterMap fun (k : Nat) => xs[(((xs.size : Int) - 1) + (k : Int) * (-1)).toNat]?).toArray = xs.toList.reverse.toArray := by
  have e : ((List.range xs.size).filterMap fun (k : Nat) => xs[(((xs.size : Int) - 1) + (k : Int) * (-1)).toNat]?) = ((List.range xs.size).map fun k => xs.size - 1 - k).filterMap (xs[·]?) := by
    rw [List.filterMap_map]
    congr 1
    funext k
    show xs[(((xs.size : Int) - 1) + (k : Int) * (-1)).toNat]? = xs[xs.size - 1 - k]?
    rw [show (((xs.size : Int) - 1) + (k : Int) * (-1)).toNat = xs.size - 1 - k by omega]
  rw [e, PySem.W.krv_range, List.filterMap_reverse, PySem.W.krv_all]
theorem getT_step {prog : Program} {w : World} {A : Around} {E : Value → Shared → Prop} {s : Shared} {t sl : Addr} {xs : Array Value} {vs : Value} {k : Int} {Q : Value → Shared → Prop} (ht : IsTup s.heap t xs) (hs : s.heap.IsSliceOf sl .none .none vs) (ps : IsPart vs (some k)) (hk : k = 1 ∨ k = -1)
    (h1 : k = 1 → Q (.ref t) s) (h2 : k = -1 → Q (.ref s.heap.objs.size) { s with heap := s.heap.push { cls := .type "tuple", data := .seq xs.toList.reverse.toArray } }) (hz : xs.size ≤ sizeLine) : wpAny (model prog w) A (getItem (.ref t) (.ref sl)) Q E s := by
  obtain ⟨os, a1, a2, a3⟩ := id hs
  unfold getItem
  try with_reducible refine wpAny_holding ?_
  first | refine wpAny_bind (wpAny_pure ?_) | skip
  refine wpAny_bind (wpAny_sequenceKey ht.typeIs (by decide) (wpAny_bind (wpAny_callSpecial?_slot (name := Str.ofString "__getitem__") ht.typeIs PyProof.Rows.slot_tuple_getitem (wpAny_call_entry PyProof.Rows.slot_tuple_getitem ht.typeIs entry_tuple_getitem ?_ (args_tuple_getitem _ _)))))
  show wpAny _ _ (Builtin.Tuple.tupleItemsOf (.ref t) >>= _) _ _ s
  refine wpAny_bind (tupleItemsOf_ ht (wpAny_bind (wpAny_typeOf (s := s) ⟨os, a1, a2⟩ ?_)))
  rw [if_pos (by decide)]
  unfold Builtin.Slice.sliceApplied Builtin.Slice.sliceFields
  refine wpAny_bind (wpAny_bind (wpAny_bind (wpAny_field a1 a3 (x := .none) rfl (wpAny_bind (wpAny_field a1 a3 (x := .none) rfl (wpAny_bind (wpAny_field a1 a3 (x := vs) rfl (wpAny_pure ?_))))))))
  refine wpAny_bind (HT.slicePart_ ps ?_)
  rcases hk with rfl | rfl
  · show wpAny _ _ (if ((1 : Int) == 0) = true then _ else _) _ _ s
    rw [if_neg (by decide)]
    refine wpAny_bind (slicePart_none (wpAny_bind (slicePart_none (wpAny_bind (wpAny_pure (wpAny_pure ?_))))))
    show wpAny _ _ (if ((0 : Int) == 0 && (1 : Int) == 1 && Builtin.Slice.slicePlaces 0 (xs.size : Int) 1 == xs.size) = true then _ else _) _ _ s
    rw [if_pos (by rw [places_up]; simp)]
    refine wpAny_bind ?_
    show wpAny _ _ (typeOf (.ref t) >>= fun T => pure (T == .type "tuple")) _ _ s
    refine wpAny_bind (wpAny_typeOf ht.typeIs (wpAny_pure ?_))
    first
      | rw [if_pos (by decide)]
      | simp only [beq_self_eq_true, if_true]
    first
      | exact wpAny_bind (wpAny_rule (wpAny_pure ⟨_, rfl, wpAny_pure (h1 rfl)⟩))
      | exact wpAny_bind (wpAny_rule (wpAny_bind (wpAny_pure (wpAny_pure ⟨_, rfl, wpAny_pure (h1 rfl)⟩))))
  · show wpAny _ _ (if ((-1 : Int) == 0) = true then _ else _) _ _ s
    rw [if_neg (by decide)]
    refine wpAny_bind (slicePart_none (wpAny_bind (slicePart_none (wpAny_bind (wpAny_pure (wpAny_pure ?_))))))
    show wpAny _ _ (if (((xs.size : Int) - 1) == 0 && (-1 : Int) == 1 && Builtin.Slice.slicePlaces ((xs.size : Int) - 1) (-1) (-1) == xs.size) = true then _ else (do
      let __do_lift ← Builtin.Tuple.tupleExact (List.filterMap (fun (k : Nat) => xs[(((xs.size : Int) - 1) + (k : Int) * (-1)).toNat]?) (List.range (Builtin.Slice.slicePlaces ((xs.size : Int) - 1) (-1) (-1)))).toArray
      ret __do_lift)) _ _ s
    rw [if_neg (by simp), places_down, pick_down]
    have hr : xs.toList.reverse.toArray.size ≤ sizeLine := by rw [List.size_toArray, List.length_reverse, Array.length_toList]; exact hz
    first
      | exact wpAny_bind (m := Builtin.Tuple.tupleExact _) (wpAny_newObj_type (wpAny_pure ⟨_, rfl, wpAny_pure (h2 rfl)⟩) hr)
      | exact wpAny_bind (m := Builtin.Tuple.tupleExact _) (wpAny_newObj_type (wpAny_bind (wpAny_pure (wpAny_pure ⟨_, rfl, wpAny_pure (h2 rfl)⟩))) hr)
      | exact wpAny_bind (wpAny_bind (m := Builtin.Tuple.tupleExact _) (wpAny_newObj_type (wpAny_pure (wpAny_pure ⟨_, rfl, wpAny_pure (h2 rfl)⟩)) hr))
/-- t[::e], e worth 1 or -1 -/
def tStp (K : PySem.W.Frag) (te : TE) (ts : TO) : TE := fun σ H Q => te σ H fun x H1 => ts σ H1 fun o H2 => ∃ a xs k, x = .ref a ∧ SqT K H2 a xs ∧ o = some k ∧ ((k = 1 ∧ Q (.ref a) H2) ∨ (k = -1 ∧ ∀ q, H2 q = none → Q (.ref q) (upd H2 q (.tup xs.reverse))))
theorem pe_stp {e : Expr} {st : Expr} {te : TE} {ts : TO} {p3 pos : Pos} (he : PE X e te) (hst : PO X (some st) ts) (hop : ∀ v r, subscripted (.Slice none none (some st) p3) false v r = operate [v, r] (getItem v r) := by intro _ _; with_unfolding_all rfl) :
    PE X (.Subscript e (.Slice none none (some st) p3) pos) (tStp X.K te ts) := by
  refine ⟨fun pins s σ H Q I h => Subscript_ (thn (he.run pins s σ H _ I h) fun v s1 ⟨x, H1, I1, r1, q1⟩ => ?_)⟩
  refine wpAny_Slice (thn (po_none.run pins s1 σ H1 (fun o G => o = none ∧ G = H1) I1 ⟨rfl, rfl⟩) fun vl s2 ⟨l, H2, I2, pl, el, e2⟩ => ?_)
  subst el e2
  refine thn (po_none.run pins s2 σ H2 (fun o G => o = none ∧ G = H2) I2 ⟨rfl, rfl⟩) fun vu s3 ⟨u, H3, I3, pu, eu, e3⟩ => ?_
  subst eu e3
  refine thn (hst.run pins s3 σ H3 _ I3 q1) fun vs s4 ⟨o, H4, I4, ps, a, xs, k, ex, hx, eo, q⟩ => ?_
  subst ex eo
  cases r1
  have I5 : Inv X pins σ H4 { s4 with heap := s4.heap.push { cls := .type "slice", data := .fields #[vl, vu, vs] } } := I4.kept (t' := s4.toks) fun b ob q => Heap.get?_push_of_some _ q
  obtain ⟨its, r, ht, hz⟩ := I5.tuple hx
  have hlen := r.length
  have nl : vl = .none := by cases pl; rfl
  have nu : vu = .none := by cases pu; rfl
  subst nl nu
  refine tail_any (s := { s4 with heap := s4.heap.push { cls := .type "slice", data := .fields #[.none, .none, vs] } }) (ops := [.ref a, .ref s4.heap.objs.size]) ht.typeIs PyProof.Rows.slot_tuple_getitem.lookup ?_ (hop _ _)
  refine getT_step ht (Heap.IsSliceOf.new _ .none .none vs) ps (q.elim (fun z => .inl z.1) fun z => .inr z.1) (fun hk => ?_) (fun hk => ?_) (by rw [List.size_toArray]; omega)
  · rcases q with ⟨_, q⟩ | ⟨z, _⟩
    · exact ⟨.ref a, H4, I5, rfl, q⟩
    · rw [hk] at z; cases z
  · rcases q with ⟨z, _⟩ | ⟨_, q⟩
    · rw [hk] at z; cases z
    · refine ⟨.ref _, _, I5.laid (t' := s4.toks) (o := .tup xs.reverse) (fun b ob q => Heap.get?_push_of_some _ q) (Nat.le_refl _) ?_, rfl, q _ (I5.hok.fresh (Nat.le_refl _))⟩
      exact ⟨by rw [List.length_reverse]; exact hz, its.reverse, r.reverse, IsTup.new _ _⟩
/-- repr(x), x plain data, where no repr is under way -/
def shw (d : D) : Option Str := match d with
  | .none => some "None"
  | .bool b => some (if b then "True" else "False")
  | .int i => if i.natAbs.log2 < 1920 then some (toString i) else none
  | .str x => if (reprText x).length ≤ sizeLine then some (reprText x) else none
  | .list ds => if d.showable = true ∧ d.hasDict = false ∧ d.depth ≤ 64 ∧ d.shown.length ≤ sizeLine then some d.shown else none
  | .tuple ds => if d.showable = true ∧ d.hasDict = false ∧ d.depth ≤ 64 ∧ d.shown.length ≤ sizeLine then some d.shown else none
  | .dict _ => none
def rRepr (K : PySem.W.Frag) : List V → Hp → VK → Prop := fun xs H Q => ∃ v d x, xs = [v] ∧ Dp K H v d ∧ shw d = some x ∧ Q (.str x) H
theorem call_reprD (gd : X.A.guards = some []) (hu : X.A.units + 66 < cLine) : CallR X (.builtin "repr") (rRepr X.K) := by
  intro pins s σ H xs us Q I r h
  obtain ⟨v, d, x, rfl, hd, e, q⟩ := h
  obtain ⟨u, rfl, ru⟩ := Vals.one r
  obtain ⟨as, rd⟩ := Dp.reads I d v u hd ru
  have big : (d.showable = true ∧ d.hasDict = false ∧ d.depth ≤ 64 ∧ d.shown.length ≤ sizeLine) → (∃ a, u = .ref a) → d.shown = x → wpAny (model X.prog X.w) X.A (call (.builtin "repr") [u]) (EP X pins σ Q) X.xe s := fun ⟨h1, h2, h3, h4⟩ ⟨a, ea⟩ e => by
    subst ea
    refine repr_of_reads' rd h1 (PyData.noDict_hsm h2) gd (by omega) (fun _ _ e => e) (fun h' u tk k => ?_) h4
    rw [e]
    exact ⟨.str x, H, I.kept k, ⟨_, rfl⟩, q⟩
  cases d with
  | none => cases hd; cases ru; cases Option.some.inj e; exact PySem.P.repr_of_none ⟨.str _, H, I.tok _, ⟨_, rfl⟩, q⟩
  | bool b => cases hd; cases ru; cases Option.some.inj e; exact PySem.P.repr_of_bool ⟨.str _, H, I.tok _, ⟨_, rfl⟩, q⟩
  | int i =>
    cases hd
    obtain ⟨t, rfl⟩ := ru
    unfold shw at e
    dsimp only at e
    split at e
    · rename_i hi
      cases Option.some.inj e
      exact PySem.P.repr_of_int hi ⟨.str _, H, I.tok _, ⟨_, rfl⟩, q⟩
    · cases e
  | str y =>
    cases hd
    obtain ⟨t, rfl⟩ := ru
    unfold shw at e
    dsimp only at e
    split at e
    · rename_i hi
      cases Option.some.inj e
      exact PySem.P.repr_of_str ⟨.str _, H, I.tok _, ⟨_, rfl⟩, q⟩ hi
    · cases e
  | list ds =>
    unfold shw at e
    dsimp only at e
    split at e
    · rename_i hh
      exact big hh (by cases hd; cases ru; exact ⟨_, rfl⟩) (Option.some.inj e)
    · cases e
  | tuple ds =>
    unfold shw at e
    dsimp only at e
    split at e
    · rename_i hh
      exact big hh (by cases hd; cases ru; exact ⟨_, rfl⟩) (Option.some.inj e)
    · cases e
  | dict k => cases hd
end
end VL

namespace VL
open PySem PySem.Spec PyProof.Rows L2
theorem add_LL (l : Addr) (xs : Array Value) (n : Nat) (b : Addr) (ys : Array Value) (m : Nat) (sl sm : Array (Option Value)) (h0 : xs.size + ys.size ≤ sizeLine) :
    Meets (Builtin.«list.__add__» ⟨[.ref l, .ref b], []⟩) (fun _ R s => s.heap.get? l = some { cls := .type "list", dict := none, data := .seq xs n, slots := sl } ∧
      s.heap.get? b = some { cls := .type "list", dict := none, data := .seq ys m, slots := sm } ∧ R (.ok (.ret (Value.ref s.heap.objs.size))) { s with heap := s.heap.push { cls := Value.type "list", data := Data.seq (xs ++ ys) }, toks := s.toks }) :=
  .of_wp fun prog w A R s h => by
    obtain ⟨hp, g, d, tk, os⟩ := s; obtain ⟨hl, hb, h⟩ := h
    have f1 := AutoSeq1.idx_int; have f2 := AutoSeq1.sub_tuple_tuple; have f3 := AutoSeq1.sub_list_list; have f4 := AutoSeq1.sub_tuple_list; have f5 := AutoSeq1.sub_list_tuple
    wp_walk using wpAny_loadPart' hl, wpAny_loadPart' hb
    exact ⟨_, rfl, h⟩
theorem ext_LL (l : Addr) (xs : Array Value) (n : Nat) (b : Addr) (ys : Array Value) (m : Nat) (sl : Array (Option Value)) (h0 : ¬(!xs.isEmpty && Builtin.List.listTooLong (xs.size + ys.size)) = true) (h1 : xs.size ≤ sizeLine) (h2 : xs.size + ys.size ≤ sizeLine + 1) :
    Meets (Builtin.«list.extend» ⟨[.ref l, .ref b], []⟩) (fun _ R s => s.heap.get? l = some { cls := .type "list", dict := none, data := .seq xs n, slots := #[] } ∧
      s.heap.get? b = some { cls := .type "list", dict := none, data := .seq ys m, slots := sl } ∧ R (.ok (.ret Value.none)) { s with heap := s.heap.update l (Obj.mapSeq fun x => x ++ ys), toks := s.toks }) :=
  .of_wp fun prog w A R s h => by
    obtain ⟨hp, g, d, tk, os⟩ := s; obtain ⟨hl, hb, h⟩ := h
    have f1 := AutoSeq1.idx_int; have f2 := AutoSeq1.sub_tuple_tuple; have f3 := AutoSeq1.sub_list_list; have f4 := AutoSeq1.sub_tuple_list; have f5 := AutoSeq1.sub_list_tuple
    have hz : (xs ++ ys).size ≤ sizeLine + 1 := by rw [Array.size_append]; exact h2
    wp_walk using (wpAny_updateSeq hl rfl (hz := h1) (_hz' := hz)), wpAny_loadPart' hl, wpAny_loadPart' hb
    exact ⟨_, rfl, h⟩
end VL

namespace VL
open PySem PySem.Spec PyProof.Rows L2
section
variable {X : Cx}
/-! ### lists of any origin -/
def rCatL (K : PySem.W.Frag) : R2 := fun x y H Q => ∃ a b xs zs, x = .ref a ∧ y = .ref b ∧ SqL K H a xs ∧ SqL K H b zs ∧ xs.length + zs.length ≤ sizeLine ∧ ∀ p, H p = none → Q (.ref p) (upd H p (.lst (xs ++ zs)))
theorem op_catL : OpR X (binaryOp .Add) (rCatL X.K) := by
  intro pins s σ H x y v u Q I rx ry h
  obtain ⟨a, b, xs, zs, rfl, rfl, hA, hB, hz, q⟩ := h
  cases rx
  cases ry
  obtain ⟨is, ri, ⟨⟨c1, d1, t1, l1⟩, n, o1, q1, q2, q3⟩, _⟩ := I.list hA
  obtain ⟨js, rj, ⟨⟨c2, d2, t2, l2⟩, m, o2, p1, p2, p3⟩, _⟩ := I.list hB
  have q1 : c1 = .type "list" := q1
  have q2 : d1 = none := q2
  have q3 : t1 = .seq is.toArray n := q3
  have p1 : c2 = .type "list" := p1
  have p2 : d2 = none := p2
  have p3 : t2 = .seq js.toArray m := p3
  subst q1 q2 q3 p1 p2 p3
  have e1 := ri.length
  have e2 := rj.length
  refine PySem.concat_meets ⟨_, o1, rfl⟩ ⟨_, o2, rfl⟩ PySem.noFill_list_add PySem.seq_list_add F.slot_list_add F.entry_list_add (F.args_list_add_2 _ _) (add_LL a is.toArray n b js.toArray m l1 l2 (by rw [List.size_toArray, List.size_toArray]; omega)) ⟨o1, o2, ?_⟩
  have ea : is.toArray ++ js.toArray = (is ++ js).toArray := by simp
  rw [ea]
  exact ⟨.ref _, _, I.lnew (t' := s.toks) (ri.append rj) (by rw [List.length_append]; omega), rfl, q _ I.fresh⟩
def rExtL (K : PySem.W.Frag) : V → List V → Hp → VK → Prop := fun x vs H Q => ∃ l b xs zs, x = .ref l ∧ vs = [.ref b] ∧ H l = some (.lst xs) ∧ SqL K H b zs ∧ xs.length + zs.length ≤ sizeLine ∧ Q .non (upd H l (.lst (xs ++ zs)))
theorem mt_extL : MtM X "list.extend" (rExtL X.K) := by
  intro pins s σ H x vs v us Q I rx rv h
  obtain ⟨l, b, xs, zs, rfl, rfl, hH, hB, hz, q⟩ := h
  cases rx
  obtain ⟨u, rfl, ru⟩ := rv.one
  cases ru
  obtain ⟨z, its, n, r, hl, e⟩ := I.lstM hH
  obtain ⟨js, rj, ⟨⟨c2, d2, t2, l2⟩, m, o2, p1, p2, p3⟩, _⟩ := I.list hB
  have p1 : c2 = .type "list" := p1
  have p2 : d2 = none := p2
  have p3 : t2 = .seq js.toArray m := p3
  subst p1 p2 p3
  have e1 := r.length
  have e2 := rj.length
  have hs : its.toArray.size + js.toArray.size ≤ sizeLine := by rw [List.size_toArray, List.size_toArray]; omega
  refine call_meets F.slot_list_extend ⟨_, e, rfl⟩ F.entry_list_extend (F.args_list_extend_2 _ _)
    (ext_LL l its.toArray n b js.toArray m l2 (by rw [notLongL hs, Bool.and_false]; exact Bool.false_ne_true) (by rw [List.size_toArray]; omega) (by omega)) ⟨e, o2, ?_⟩
  exact ⟨.non, _, I.lset (its' := its ++ js) hH e (by simp) (r.append rj) (by rw [List.length_append]; omega), rfl, q⟩
def rXt (K : PySem.W.Frag) : V → List V → Hp → VK → Prop := fun x vs H Q => rExtL K x vs H Q ∨ rExtT K x vs H Q
theorem mt_xt : MtM X "list.extend" (rXt X.K) := fun pins s σ H x vs v us Q I rx rv h => h.elim (mt_extL pins s σ H x vs v us Q I rx rv) (mt_extT pins s σ H x vs v us Q I rx rv)
end
def xtD : List D → List D → Option (D × List D) := fun xs ds => match ds with
  | [.list es] => if xs.length + es.length ≤ sizeLine then some (.none, xs ++ es) else none
  | [.tuple es] => if xs.length + es.length ≤ sizeLine then some (.none, xs ++ es) else none
  | _ => none
theorem mv_xt {K : PySem.W.Frag} : MutV K (rXt K) xtD := by
  intro R H a vs us xs ds d ys Q m ha hd hu e q
  unfold xtD at e
  split at e
  · rename_i es
    split at e
    · rename_i hz
      cases Option.some.inj e
      cases hu with
      | cons h1 h2 =>
        cases h2
        cases h1 with
        | lst hs he => exact .inl ⟨a, _, vs, _, rfl, rfl, ha, sqL_mono m hs, by rw [dpAll_len hd, dpAll_len he]; exact hz, q _ _ (dpAll_app hd he) .non⟩
    · cases e
  · rename_i es
    split at e
    · rename_i hz
      cases Option.some.inj e
      cases hu with
      | cons h1 h2 =>
        cases h2
        cases h1 with
        | tup hs he => exact .inr ⟨a, _, vs, _, rfl, rfl, ha, sqT_mono m hs, by rw [dpAll_len hd, dpAll_len he]; exact hz, q _ _ (dpAll_app hd he) .non⟩
    · cases e
  · cases e

/-! ### operators -/
section
variable {K : PySem.W.Frag}
def rAddA (K : PySem.W.Frag) : R2 := fun x y H Q => (rI0 fun i j => V.int (i + j)) x y H Q ∨ (rCatA K x y H Q ∨ rCatL K x y H Q)
theorem op_addA {X : Cx} : OpR X (binaryOp .Add) (rAddA X.K) := op_add.or (op_catA.or op_catL)
def addD (d e : D) : Option Rs := match d, e with
  | .int i, .int j => some (.im (.int (i + j)))
  | .tuple xs, .tuple ys => if xs.length + ys.length ≤ sizeLine then some (.im (.tuple (xs ++ ys))) else none
  | .list xs, .list ys => if xs.length + ys.length ≤ sizeLine then some (.fr (xs ++ ys)) else none
  | _, _ => none
theorem ov_add : OpV K (rAddA K) addD := by
  intro R H v u d e z Q m hv hu q o
  unfold addD at q
  split at q
  · cases Option.some.inj q
    cases hv; cases hu
    exact .inl ⟨_, _, rfl, rfl, o _ R H (.refl m) (.int _)⟩
  · rename_i xs ys
    split at q
    · rename_i hz
      cases Option.some.inj q
      have hv : Dp K R v (.tuple xs) := hv
      have hu : Dp K R u (.tuple ys) := hu
      cases hv with
      | tup h1 d1 => cases hu with
        | tup h2 d2 =>
          rename_i a vs b us
          refine .inr (.inl ⟨a, b, vs, us, rfl, rfl, sqT_mono m h1, sqT_mono m h2, by rw [dpAll_len d1, dpAll_len d2]; exact hz, fun e => ?_, fun _ e => ?_, fun _ _ p hp => ?_⟩)
          · subst e; cases d1; exact o _ R H (.refl m) (.tup h2 d2)
          · subst e; cases d2
            refine o _ R H (.refl m) (.tup h1 ?_)
            rw [List.append_nil]; exact d1
          · exact o _ _ _ (.tup m hp) (.tup (.inl (.inl upd_same)) (dpAll_mono (Grow.tup m hp).r _ _ (dpAll_app d1 d2)))
    · cases q
  · rename_i xs ys
    split at q
    · rename_i hz
      cases Option.some.inj q
      obtain ⟨a, vs, rfl, h1, d1⟩ := hv
      obtain ⟨b, us, rfl, h2, d2⟩ := hu
      exact .inr (.inr ⟨a, b, vs, us, rfl, rfl, h1, h2, by rw [dpAll_len d1, dpAll_len d2]; exact hz, fun p hp => o p _ hp (dpAll_app d1 d2)⟩)
    · cases q
  · cases q
def intD (g : Int → Int → D) (C : Int → Int → Bool) (d e : D) : Option Rs := match d, e with
  | .int i, .int j => if C i j = true then some (.im (g i j)) else none
  | _, _ => none
theorem ov_int {C : Int → Int → Prop} {f : Int → Int → V} {g : Int → Int → D} {c : Int → Int → Bool} (hc : ∀ i j, c i j = true → C i j) (hg : ∀ i j R, Dp K R (f i j) (g i j)) : OpV K (rI C f) (intD g c) := by
  intro R H v u d e z Q m hv hu q o
  unfold intD at q
  split at q
  · split at q
    · rename_i h
      cases Option.some.inj q
      cases hv; cases hu
      exact ⟨_, _, rfl, rfl, hc _ _ h, o _ R H (.refl m) (hg _ _ R)⟩
    · cases q
  · cases q
theorem ov_int0 {f : Int → Int → V} {g : Int → Int → D} (hg : ∀ i j R, Dp K R (f i j) (g i j)) : OpV K (rI0 f) (intD g fun _ _ => true) := by
  intro R H v u d e z Q m hv hu q o
  unfold intD at q
  split at q
  · rw [if_pos rfl] at q
    cases Option.some.inj q
    cases hv; cases hu
    exact ⟨_, _, rfl, rfl, o _ R H (.refl m) (hg _ _ R)⟩
  · cases q
def subD : D → D → Option Rs := intD (fun i j => .int (i - j)) fun _ _ => true
theorem ov_sub : OpV K (rI0 fun i j => V.int (i - j)) subD := ov_int0 fun _ _ _ => .int _
def mulD : D → D → Option Rs := intD (fun i j => .int (i * j)) fun i j => decide (i.natAbs.log2 + j.natAbs.log2 < 1000000)
theorem ov_mul : OpV K (rI CMulW fun i j => V.int (i * j)) mulD := ov_int (fun i j h => of_decide_eq_true (p := i.natAbs.log2 + j.natAbs.log2 < 1000000) h) fun _ _ _ => .int _
def fdvD : D → D → Option Rs := intD (fun i j => .int (i / j)) fun i j => decide (0 < j ∧ j.natAbs.log2 < 9000)
theorem ov_fdv : OpV K (rI CDivW fun i j => V.int (i / j)) fdvD := ov_int (fun i j h => of_decide_eq_true (p := 0 < j ∧ j.natAbs.log2 < 9000) h) fun _ _ _ => .int _
def modD : D → D → Option Rs := intD (fun i j => .int (i % j)) fun i j => decide (0 < j)
theorem ov_mod : OpV K (rI (fun _ j => 0 < j) fun i j => V.int (i % j)) modD := ov_int (fun _ _ h => of_decide_eq_true h) fun _ _ _ => .int _
def powD : D → D → Option Rs := intD (fun i j => .int (i ^ j.toNat)) fun i j => decide (0 ≤ j ∧ j ≤ 1000000 ∧ i.natAbs < 2 ^ 64)
theorem ov_pow : OpV K (rI CPow fun i j => V.int (i ^ j.toNat)) powD := ov_int (fun i j h => of_decide_eq_true (p := 0 ≤ j ∧ j ≤ 1000000 ∧ i.natAbs < 2 ^ 64) h) fun _ _ _ => .int _
def ltD : D → D → Option Rs := intD (fun i j => .bool (decide (i < j))) fun _ _ => true
def leD : D → D → Option Rs := intD (fun i j => .bool (decide (i ≤ j))) fun _ _ => true
def gtD : D → D → Option Rs := intD (fun i j => .bool (decide (j < i))) fun _ _ => true
def geD : D → D → Option Rs := intD (fun i j => .bool (decide (j ≤ i))) fun _ _ => true
theorem ov_lt : OpV K (rI0 fun i j => V.bl (decide (i < j))) ltD := ov_int0 fun _ _ _ => .bl _
theorem ov_le : OpV K (rI0 fun i j => V.bl (decide (i ≤ j))) leD := ov_int0 fun _ _ _ => .bl _
theorem ov_gt : OpV K (rI0 fun i j => V.bl (decide (j < i))) gtD := ov_int0 fun _ _ _ => .bl _
theorem ov_ge : OpV K (rI0 fun i j => V.bl (decide (j ≤ i))) geD := ov_int0 fun _ _ _ => .bl _
def eqD (d e : D) : Option Rs := if SeqAt.shaped d = true ∧ SeqAt.shaped e = true then some (.im (.bool (PyData.eqv d e))) else none
def neD (d e : D) : Option Rs := if SeqAt.shaped d = true ∧ SeqAt.shaped e = true then some (.im (.bool (!PyData.eqv d e))) else none
theorem ov_eq : OpV K (rEqD K) eqD := by
  intro R H v u d e z Q m hv hu q o
  unfold eqD at q
  split at q
  · rename_i h
    cases Option.some.inj q
    exact ⟨d, e, hv.dp m, hu.dp m, h.1, h.2, o _ R H (.refl m) (.bl _)⟩
  · cases q
theorem ov_ne : OpV K (rNeD K) neD := by
  intro R H v u d e z Q m hv hu q o
  unfold neD at q
  split at q
  · rename_i h
    cases Option.some.inj q
    exact ⟨d, e, hv.dp m, hu.dp m, h.1, h.2, o _ R H (.refl m) (.bl _)⟩
  · cases q
/-- in, not in: lists of any data; lists and tuples of flat data -/
def flatD : D → Bool
  | .none | .bool _ | .int _ | .str _ => true
  | _ => false
def inO (neg : Bool) (d : D) (es : List D) : Rs := .im (.bool (if neg then !es.any (fun z => PyData.eqv z d) else es.any fun z => PyData.eqv z d))
def inDl (neg : Bool) (d e : D) : Option Rs := match e with
  | .list es => if SeqAt.shaped d = true ∧ SeqAt.shaped (.list es) = true then some (inO neg d es) else none
  | _ => none
theorem ov_in : OpV K (rInD K) (inDl false) := by
  intro R H v u d e z Q m hv hu q o
  unfold inDl at q
  split at q
  · rename_i es
    split at q
    · rename_i h
      cases Option.some.inj q
      exact ⟨d, es, hv.dp m, hu.dp m, h.1, h.2, o _ R H (.refl m) (.bl _)⟩
    · cases q
  · cases q
theorem ov_notin : OpV K (rNotInD K) (inDl true) := by
  intro R H v u d e z Q m hv hu q o
  unfold inDl at q
  split at q
  · rename_i es
    split at q
    · rename_i h
      cases Option.some.inj q
      exact ⟨d, es, hv.dp m, hu.dp m, h.1, h.2, o _ R H (.refl m) (.bl _)⟩
    · cases q
  · cases q
/-- items -/
def ixD (d e : D) : Option Rs := match d, e with
  | .list xs, .int i => (atI xs i).map .im
  | .tuple xs, .int i => (atI xs i).map .im
  | _, _ => none
theorem atI_dp {R : Hp} {vs : List V} {ds : List D} {i : Int} {d : D} (h : DpAll K R vs ds) (e : atI ds i = some d) : ∃ v, atI vs i = some v ∧ Dp K R v d := by
  unfold atI at e ⊢
  rw [dpAll_len h]
  obtain ⟨j, e1, e2⟩ := Option.bind_eq_some_iff.mp e
  obtain ⟨v, e3, h3⟩ := dpAll_get h e2
  exact ⟨v, Option.bind_eq_some_iff.mpr ⟨j, e1, e3⟩, h3⟩
theorem ov_ix : OpV K (rIx K) ixD := by
  intro R H v u d e z Q m hv hu q o
  unfold ixD at q
  split at q
  · rename_i xs i
    obtain ⟨y, e1, rfl⟩ := Option.map_eq_some_iff.mp q
    obtain ⟨a, vs, rfl, h1, d1⟩ := hv
    cases hu
    obtain ⟨w, e2, hw⟩ := atI_dp d1 e1
    exact .inl ⟨a, vs, i, w, rfl, rfl, h1, e2, o w R H (.refl m) hw⟩
  · rename_i xs i
    obtain ⟨y, e1, rfl⟩ := Option.map_eq_some_iff.mp q
    have hv : Dp K R v (.tuple xs) := hv
    cases hu
    cases hv with
    | tup h1 d1 =>
      obtain ⟨w, e2, hw⟩ := atI_dp d1 e1
      exact .inr (.inl ⟨_, _, i, w, rfl, rfl, sqT_mono m h1, e2, o w R H (.refl m) hw⟩)
  · cases q
def negD (d : D) : Option Rs := match d with
  | .int i => some (.im (.int (-i)))
  | _ => none
theorem uv_neg : UnV K (rU fun i => V.int (-i)) negD := by
  intro R H v d z Q m hv q o
  unfold negD at q
  split at q
  · cases Option.some.inj q
    cases hv
    exact ⟨_, rfl, o _ R H (.refl m) (.int _)⟩
  · cases q
/-- tuple(x) -/
def tupleD (d : D) : Option Rs := match d with
  | .list xs => some (.im (.tuple xs))
  | .tuple xs => some (.im (.tuple xs))
  | _ => none
theorem uv_tuple : UnV K (kTup K) tupleD := by
  intro R H v d z Q m hv q o
  unfold tupleD at q
  split at q
  · cases Option.some.inj q
    obtain ⟨a, vs, rfl, h1, d1⟩ := hv
    exact .inl ⟨a, vs, rfl, h1, fun p hp => o _ _ _ (.tup m hp) (.tup (.inl (.inl upd_same)) (dpAll_mono (Grow.tup m hp).r _ _ d1))⟩
  · cases Option.some.inj q
    rename_i xs
    have hv : Dp K R v (.tuple xs) := hv
    cases hv with
    | tup h1 d1 => exact .inr ⟨_, _, rfl, sqT_mono m h1, o _ R H (.refl m) (.tup h1 d1)⟩
  · cases q
/-! built-ins -/
def rLen (K : PySem.W.Frag) : List V → Hp → VK → Prop := fun xs H Q => ∃ p ys, xs = [.ref p] ∧ (SqL K H p ys ∨ SqT K H p ys) ∧ Q (.int ys.length) H
theorem call_lenA {X : Cx} : CallR X (.builtin "len") (rLen X.K) := call_len_seq
def lenD (ds : List D) : Option Rs := match ds with
  | [.list xs] => some (.im (.int xs.length))
  | [.tuple xs] => some (.im (.int xs.length))
  | _ => none
theorem vrs1 {R H : Hp} {vs : List V} {d : D} (h : Vrs K R H vs [d]) : ∃ v, vs = [v] ∧ Vr K R H v d := by
  match vs, h with
  | [v], h => exact ⟨v, rfl, h.1⟩
  | _ :: _ :: _, h => exact h.2.elim
theorem vrs2 {R H : Hp} {vs : List V} {d e : D} (h : Vrs K R H vs [d, e]) : ∃ v u, vs = [v, u] ∧ Vr K R H v d ∧ Vr K R H u e := by
  match vs, h with
  | [v, u], h => exact ⟨v, u, rfl, h.1, h.2.1⟩
  | [v], h => exact h.2.elim
  | _ :: _ :: _ :: _, h => exact h.2.2.elim
theorem cv_len : CallV K (rLen K) lenD := by
  intro R H vs ds z Q m hv q o
  unfold lenD at q
  split at q
  · cases Option.some.inj q
    obtain ⟨v, rfl, h⟩ := vrs1 hv
    obtain ⟨a, ws, rfl, h1, d1⟩ := h
    refine ⟨a, ws, rfl, .inl h1, ?_⟩
    rw [dpAll_len d1]; exact o _ R H (.refl m) (.int _)
  · cases Option.some.inj q
    obtain ⟨v, rfl, h⟩ := vrs1 hv
    rename_i xs
    have h : Dp K R v (.tuple xs) := h
    cases h with
    | tup h1 d1 =>
      refine ⟨_, _, rfl, .inr (sqT_mono m h1), ?_⟩
      rw [dpAll_len d1]; exact o _ R H (.refl m) (.int _)
  · cases q
def rAbs : List V → Hp → VK → Prop := fun xs H Q => ∃ i, xs = [.int i] ∧ Q (.int (if i < 0 then -i else i)) H
theorem call_absA {X : Cx} : CallR X (.builtin "abs") rAbs := call_abs
def absD (ds : List D) : Option Rs := match ds with
  | [.int i] => some (.im (.int (if i < 0 then -i else i)))
  | _ => none
theorem cv_abs : CallV K rAbs absD := by
  intro R H vs ds z Q m hv q o
  unfold absD at q
  split at q
  · cases Option.some.inj q
    obtain ⟨v, rfl, h⟩ := vrs1 hv
    cases h
    exact ⟨_, rfl, o _ R H (.refl m) (.int _)⟩
  · cases q
def rInt1 : List V → Hp → VK → Prop := fun xs H Q => (∃ i, xs = [.int i] ∧ Q (.int i) H) ∨ ∃ k, xs = [.bl k] ∧ Q (.int (if k then 1 else 0)) H
theorem call_intA {X : Cx} : CallR X (.type "int") rInt1 := call_int1
def intOfD (ds : List D) : Option Rs := match ds with
  | [.int i] => some (.im (.int i))
  | [.bool b] => some (.im (.int (if b then 1 else 0)))
  | _ => none
theorem cv_int : CallV K rInt1 intOfD := by
  intro R H vs ds z Q m hv q o
  unfold intOfD at q
  split at q
  · cases Option.some.inj q
    obtain ⟨v, rfl, h⟩ := vrs1 hv
    cases h
    exact .inl ⟨_, rfl, o _ R H (.refl m) (.int _)⟩
  · cases Option.some.inj q
    obtain ⟨v, rfl, h⟩ := vrs1 hv
    cases h
    exact .inr ⟨_, rfl, o _ R H (.refl m) (.int _)⟩
  · cases q
def rMin2 : List V → Hp → VK → Prop := fun xs H Q => ∃ i j, xs = [.int i, .int j] ∧ Q (.int (if j < i then j else i)) H
def rMax2' : List V → Hp → VK → Prop := fun xs H Q => ∃ i j, xs = [.int i, .int j] ∧ Q (.int (if j > i then j else i)) H
theorem call_min2A {X : Cx} (hc : X.calm = true) : CallR X (.builtin "min") rMin2 := call_min2 hc
theorem call_max2A {X : Cx} (hc : X.calm = true) : CallR X (.builtin "max") rMax2' := call_max2 hc
def min2D (ds : List D) : Option Rs := match ds with
  | [.int i, .int j] => some (.im (.int (if j < i then j else i)))
  | _ => none
def max2D (ds : List D) : Option Rs := match ds with
  | [.int i, .int j] => some (.im (.int (if j > i then j else i)))
  | _ => none
theorem cv_min2 : CallV K rMin2 min2D := by
  intro R H vs ds z Q m hv q o
  unfold min2D at q
  split at q
  · cases Option.some.inj q
    obtain ⟨v, u, rfl, h1, h2⟩ := vrs2 hv
    cases h1; cases h2
    exact ⟨_, _, rfl, o _ R H (.refl m) (.int _)⟩
  · cases q
theorem cv_max2 : CallV K rMax2' max2D := by
  intro R H vs ds z Q m hv q o
  unfold max2D at q
  split at q
  · cases Option.some.inj q
    obtain ⟨v, u, rfl, h1, h2⟩ := vrs2 hv
    cases h1; cases h2
    exact ⟨_, _, rfl, o _ R H (.refl m) (.int _)⟩
  · cases q
def rList (K : PySem.W.Frag) : List V → Hp → VK → Prop := fun xs H Q => ∃ p ys, xs = [.ref p] ∧ (SqL K H p ys ∨ SqT K H p ys) ∧ ∀ l, H l = none → Q (.ref l) (upd H l (.lst ys))
theorem call_listA {X : Cx} : CallR X (.type "list") (rList X.K) := call_list_of
def listD (ds : List D) : Option Rs := match ds with
  | [.list xs] => some (.fr xs)
  | [.tuple xs] => some (.fr xs)
  | _ => none
theorem cv_list : CallV K (rList K) listD := by
  intro R H vs ds z Q m hv q o
  unfold listD at q
  split at q
  · cases Option.some.inj q
    obtain ⟨v, rfl, h⟩ := vrs1 hv
    obtain ⟨a, ws, rfl, h1, d1⟩ := h
    exact ⟨a, ws, rfl, .inl h1, fun l hl => o l _ hl d1⟩
  · cases Option.some.inj q
    obtain ⟨v, rfl, h⟩ := vrs1 hv
    rename_i xs
    have h : Dp K R v (.tuple xs) := h
    cases h with
    | tup h1 d1 => exact ⟨_, _, rfl, .inr (sqT_mono m h1), fun l hl => o l _ hl d1⟩
  · cases q
def boolsD : List D → Option (List Bool)
  | [] => some []
  | .bool b :: ds => (boolsD ds).map (b :: ·)
  | _ => none
theorem bools_v {R : Hp} : ∀ {vs : List V} {ds : List D} {bs : List Bool}, DpAll K R vs ds → boolsD ds = some bs → vs = bs.map V.bl
  | _, _, _, .nil, e => by cases Option.some.inj e; rfl
  | v :: vs, d :: ds, bs, .cons h t, e => by
    cases d with
    | bool b =>
      obtain ⟨cs, e1, rfl⟩ := Option.map_eq_some_iff.mp (show (boolsD ds).map (b :: ·) = some bs from e)
      cases h
      rw [bools_v t e1]; rfl
    | none => cases e
    | int _ => cases e
    | str _ => cases e
    | list _ => cases e
    | tuple _ => cases e
    | dict _ => cases e
def anyD (ds : List D) : Option Rs := match ds with
  | [.list xs] => (boolsD xs).map fun bs => .im (.bool (bs.any id))
  | _ => none
def allD (ds : List D) : Option Rs := match ds with
  | [.list xs] => (boolsD xs).map fun bs => .im (.bool (bs.all id))
  | _ => none
theorem cv_any : CallV K (rAny K) anyD := by
  intro R H vs ds z Q m hv q o
  unfold anyD at q
  split at q
  · obtain ⟨bs, e1, rfl⟩ := Option.map_eq_some_iff.mp q
    obtain ⟨v, rfl, h⟩ := vrs1 hv
    obtain ⟨a, ws, rfl, h1, d1⟩ := h
    exact ⟨a, bs, rfl, by rw [← bools_v d1 e1]; exact h1, o _ R H (.refl m) (.bl _)⟩
  · cases q
theorem cv_all : CallV K (rAll K) allD := by
  intro R H vs ds z Q m hv q o
  unfold allD at q
  split at q
  · obtain ⟨bs, e1, rfl⟩ := Option.map_eq_some_iff.mp q
    obtain ⟨v, rfl, h⟩ := vrs1 hv
    obtain ⟨a, ws, rfl, h1, d1⟩ := h
    exact ⟨a, bs, rfl, by rw [← bools_v d1 e1]; exact h1, o _ R H (.refl m) (.bl _)⟩
  · cases q
def reprD (ds : List D) : Option Rs := match ds with
  | [d] => (shw d).map fun x => .im (.str x)
  | _ => none
theorem cv_repr : CallV K (rRepr K) reprD := by
  intro R H vs ds z Q m hv q o
  unfold reprD at q
  split at q
  · obtain ⟨x, e1, rfl⟩ := Option.map_eq_some_iff.mp q
    obtain ⟨v, rfl, h⟩ := vrs1 hv
    exact ⟨v, _, x, rfl, h.dp m, e1, o _ R H (.refl m) (.str _)⟩
  · cases q
/-! slices -/
def rSlU (K : PySem.W.Frag) : V → Option Int → Option Int → Hp → VK → Prop := fun x lo hi H Q => rSlA K x lo hi H Q ∨ rSlL K x lo hi H Q
theorem sl_U {X : Cx} : SlR X (rSlU X.K) := sl_tupA.or sl_list
def cutD (xs : List D) (lo hi : Option Int) : List D := (xs.drop (HT.sIx xs.length 0 lo)).take (HT.sIx xs.length xs.length hi - HT.sIx xs.length 0 lo)
theorem cut_dp {R : Hp} {vs : List V} {ds : List D} (h : DpAll K R vs ds) (lo hi : Option Int) : DpAll K R (cutV vs lo hi) (cutD ds lo hi) := by
  unfold cutV cutD
  rw [dpAll_len h]
  exact dpAll_take _ (dpAll_drop _ h)
def slD (d : D) (lo hi : Option Int) : Option Rs := match d with
  | .tuple xs => some (.im (.tuple (cutD xs lo hi)))
  | .list xs => some (.fr (cutD xs lo hi))
  | _ => none
theorem slV {R H : Hp} {v : V} {d : D} {lo hi : Option Int} {z : Rs} {Q : VK} (m : ∀ b o, R b = some o → H b = some o) (hv : Vr K R H v d) (q : slD d lo hi = some z) (o : Out K R H Q z) : rSlU K v lo hi H Q := by
  unfold slD at q
  split at q
  · rename_i xs
    cases Option.some.inj q
    have hv : Dp K R v (.tuple xs) := hv
    cases hv with
    | tup h1 d1 =>
      refine .inl ⟨_, _, rfl, sqT_mono m h1, fun hw => ?_, fun _ p hp => ?_⟩
      · refine o _ R H (.refl m) (.tup h1 ?_)
        have e := dpAll_len d1
        unfold cutD
        rw [← e, hw.1, hw.2, List.drop_zero, Nat.sub_zero, e, List.take_length]
        exact d1
      · exact o _ _ _ (.tup m hp) (.tup (.inl (.inl upd_same)) (dpAll_mono (Grow.tup m hp).r _ _ (cut_dp d1 lo hi)))
  · cases Option.some.inj q
    obtain ⟨a, vs, rfl, h1, d1⟩ := hv
    exact .inr ⟨a, vs, rfl, h1, fun p hp => o p _ hp (cut_dp d1 lo hi)⟩
  · cases q
end
abbrev SemO (p : Pm) (EX : WX) : TO → (Rho → Ou (Option Int)) → Prop := Sem p EX (fun _ _ _ _ _ b c => b = c)
def noO : Rho → Ou (Option Int) := fun ρ => .ok none ρ
def intO (r : Rs) (ρ : Rho) : Ou (Option Int) := match r with
  | .im (.int i) => .ok (some i) ρ
  | _ => .bad
def parO (F : Rho → Ou Rs) : Rho → Ou (Option Int) := fun ρ => bd (F ρ) intO
theorem sem_noO {p : Pm} {EX : WX} : SemO p EX tNoPart noO := fun R H O σ ρ Q S g => g none R H O S .refl rfl
theorem sem_parO {p : Pm} {EX : WX} {t : TE} {F : Rho → Ou Rs} (h : SemE p EX t F) : SemO p EX (tPart t) (parO F) := by
  refine Sem.bind (k := fun x σ H Q => ∃ i, x = .int i ∧ Q (some i) H) (G := intO) h fun R H O σ ρ v a Q S hv g => ?_
  unfold intO at g
  split at g
  · rename_i i
    have hv : Dp p.K R v (.int i) := hv
    cases hv
    exact ⟨i, rfl, g _ R H O S .refl rfl⟩
  · exact g.elim
def slO (r : Rs) (lo hi : Option Int) (ρ : Rho) : Ou Rs := match dr ρ r with
  | some d => fin (slD d lo hi) ρ
  | none => .bad
def slF (F : Rho → Ou Rs) (L U : Rho → Ou (Option Int)) : Rho → Ou Rs := fun ρ => bd (frz (F ρ)) fun r ρ1 => bd (L ρ1) fun lo ρ2 => bd (U ρ2) fun hi ρ3 => slO r lo hi ρ3
theorem sem_sl {p : Pm} {EX : WX} {t : TE} {tl tu : TO} {F : Rho → Ou Rs} {L U : Rho → Ou (Option Int)} (h : SemE p EX t F) (hl : SemO p EX tl L) (hu : SemO p EX tu U) : SemE p EX (tSl (rSlU p.K) t tl tu) (slF F L U) :=
  fun R H O σ ρ Q S g => h.op.use (G := fun r ρ1 => bd (L ρ1) fun lo ρ2 => bd (U ρ2) fun hi ρ3 => slO r lo hi ρ3) S g fun R1 H1 O1 ρ1 v r S1 T1 hv g1 =>
    hl.use (G := fun lo ρ2 => bd (U ρ2) fun hi ρ3 => slO r lo hi ρ3) S1 g1 fun R2 H2 O2 ρ2 lo' lo S2 T2 e2 g2 =>
      hu.use (G := fun hi ρ3 => slO r lo hi ρ3) S2 g2 fun R3 H3 O3 ρ3 hi' hi S3 T3 e3 g3 => by
        subst e2 e3
        unfold slO at g3
        split at g3
        · rename_i d ed
          obtain ⟨z, ez, oz⟩ := fin_ok S3 g3
          exact slV S3.sub (op_vr S3 (T3.op (T2.op hv)) ed) ez oz
        · exact g3.elim
/-- t[::e] -/
def stpD (d : D) (k : Option Int) : Option Rs := match d, k with
  | .tuple xs, some k => if k = 1 then some (.im (.tuple xs)) else if k = -1 then some (.im (.tuple xs.reverse)) else none
  | _, _ => none
def stpO (r : Rs) (k : Option Int) (ρ : Rho) : Ou Rs := match dr ρ r with
  | some d => fin (stpD d k) ρ
  | none => .bad
def stpF (F : Rho → Ou Rs) (L : Rho → Ou (Option Int)) : Rho → Ou Rs := fun ρ => bd (frz (F ρ)) fun r ρ1 => bd (L ρ1) fun k ρ2 => stpO r k ρ2
theorem sem_stp {p : Pm} {EX : WX} {t : TE} {ts : TO} {F : Rho → Ou Rs} {L : Rho → Ou (Option Int)} (h : SemE p EX t F) (hl : SemO p EX ts L) : SemE p EX (tStp p.K t ts) (stpF F L) :=
  fun R H O σ ρ Q S g => h.op.use (G := fun r ρ1 => bd (L ρ1) fun k ρ2 => stpO r k ρ2) S g fun R1 H1 O1 ρ1 v r S1 T1 hv g1 =>
    hl.use (G := fun k ρ2 => stpO r k ρ2) S1 g1 fun R2 H2 O2 ρ2 o k S2 T2 e2 g2 => by
      subst e2
      unfold stpO at g2
      split at g2
      · rename_i d ed
        obtain ⟨z, ez, oz⟩ := fin_ok S2 g2
        have hr := op_vr S2 (T2.op hv) ed
        unfold stpD at ez
        split at ez
        · rename_i xs k
          have hr : Dp p.K R2 v (.tuple xs) := hr
          cases hr with
          | tup h1 d1 =>
            refine ⟨_, _, k, rfl, sqT_mono S2.sub h1, rfl, ?_⟩
            split at ez
            · rename_i hk
              cases Option.some.inj ez
              exact .inl ⟨hk, oz _ R2 H2 (.refl S2.sub) (.tup h1 d1)⟩
            · split at ez
              · rename_i hk
                cases Option.some.inj ez
                exact .inr ⟨hk, fun q hq => oz _ _ _ (.tup S2.sub hq) (.tup (.inl (.inl upd_same)) (dpAll_mono (Grow.tup S2.sub hq).r _ _ (dpAll_rev d1)))⟩
              · cases ez
        · cases ez
      · exact g2.elim
end VL

/-! Errors of the program: class Base(Exception): pass; class E(Base): def __init__(self, at): self.at = at. The block follows skel/42_own_error_by_import. -/
namespace PySem
namespace ErX
open PySem.W PySem.Calls PyProof.Rows PySem.HandSPX Builtin Builtin.ObjectAttr
abbrev baseTail : List Value := [.type "Exception", .type "BaseException", .type "object"]
theorem two_contains (c : Addr) (X : String) : (Value.ref c :: baseTail).contains (.type X) = baseTail.contains (.type X) := by rw [List.contains_cons]; rfl
section
variable {prog : Program} {w : World} {A : Around} {E : Value → Shared → Prop} {R : Result → Shared → Prop} {hp : Heap} {g : Array GenState} {d : Drawn} {t : Nat} {os : OsState}
/-- a first attribute of a new error of a class with this mro -/
theorem first_store {K : W.Frag} {name : Str} {tk : Tok} {v : Value} {x C : Addr} {fv : Array Value} {cd : ClassData} (XK : K.In hp) (ox : hp.get? x = some { cls := .ref C, data := .fields fv }) (hc : W.clsIn K C = some cd) (mr : ∃ c, cd.mro = .ref C :: .ref c :: baseTail)
    (dict : cd.hasDict = true) (fr : W.findIn K (.ref C) name = some none)
    (hq : ∀ h2 tk2 dx, (∀ b o, b ≠ x → hp.get? b = some o → h2.get? b = some o) → hp.objs.size ≤ dx → dx ≠ x → h2.get? x = some { cls := .ref C, dict := some dx, data := .fields fv } →
      h2.Ns1 dx (fun y => if y = name then some v else none) → R (.ok (.ret .none)) ⟨h2, g, d, tk2, os⟩) : codeAny (model prog w) A (.call (.builtin "object.__setattr__") ⟨[.ref x, .str name tk, v], []⟩) R ⟨hp, g, d, t, os⟩ := by
  obtain ⟨c, em⟩ := mr
  have J : W.InstAt hp x { cls := .ref C, data := .fields fv } C none := ⟨ox, rfl, rfl, trivial⟩
  have FS := F.store_object
  have m0 : cd.mro.isEmpty = false := by rw [em]; rfl
  have mo : cd.mro.contains (.type "object") = true := by rw [em, List.contains_cons, two_contains, Bool.or_eq_true]; exact .inr (by decide +kernel)
  have px : x ≠ hp.objs.size := Nat.ne_of_lt (Heap.lt_size ox)
  have isO : W.Looks (model prog w) hp (isInstance (.ref x) (.type "object")) true := J.type.andThen (W.looks_mroIn XK (by unfold W.mroIn; rw [hc, Option.bind_some, if_neg (by rw [m0]; decide), mo]))
  refine codeAny_call_builtin FS.slot.plain FS.entry (@W.check_slot (model prog w) _ _ ⟨hp, g, d, t, os⟩ "object.__setattr__" "object" "__setattr__" (.ref x) [.str name tk, v] [] _ FS.kind FS.split isO (FS.args (.ref x) (.str name tk) v) ?_)
  have lm : W.Looks (model prog w) hp (mroOf (.ref C)) cd.mro := (W.looks_clsIn XK hc).andThen .now
  have ln : W.Looks (model prog w) hp (storeTaker? none) none := .now
  have lc : W.Looks (model prog w) hp (classData C) cd := W.looks_clsIn XK hc
  rw [W.osa_eq, refuse_eq]
  refine wpAny_bind (wpAny_bind (J.type.at (wpAny_bind (lm.at ?_))))
  have pass : refuseLoop (.ref x) "__setattr__" cd.mro = pure () := by
    rw [em, refuseLoop_ref, refuseLoop_ref]; exact F.store_Exception.passes _
  rw [pass]
  refine wpAny_pure (wpAny_bind (J.type.at (wpAny_bind ((W.looks_findIn XK fr).at (wpAny_bind (ln.at ?_))))))
  show wpAny _ _ (storeInOwnDict (.ref x) (.ref C) (.str name tk) name v false) _ _ _
  obtain ⟨nm, bs, mro, ns, qn, hd, sn, sb, ab, col, del⟩ := cd
  dsimp only at dict
  subst dict
  unfold storeInOwnDict ownDictForStores
  repeat (first | with_reducible refine store_in_new ?_ ?_ | with_reducible refine wpAny_loadPart_at ox ?_ | with_reducible refine lc.at ?_ | wp_step)
  · exact ⟨_, #[], _, (Heap.get?_update_ne _ _ _ _ px.symm).trans (Heap.get?_push_at rfl rfl), rfl, (fun e he => absurd he (by simp)), fun _ => rfl⟩
  · intro h2 tk2 hn same
    have o1 : (hp.push { cls := .type "dict", data := .dict #[] }).get? x = some { cls := .ref C, data := .fields fv } := Heap.get?_push_of_some _ ox
    refine hq h2 tk2 hp.objs.size (fun b o hb ho => ?_) (Nat.le_refl _) px.symm ?_ hn
    · exact (same.2 b (Nat.ne_of_lt (Heap.lt_size ho))).trans ((Heap.get?_update_ne _ _ _ _ hb).trans (Heap.get?_push_of_some _ ho))
    · exact (same.2 x px).trans (Heap.get?_update_self _ o1 rfl)
end
/-! ### the text of __init__ -/
def iA (p1 p2 : Pos) : Arguments := { posonlyargs := [], args := [{ arg := "self", annotation := none, pos := p1 }, { arg := "at", annotation := none, pos := p2 }], vararg := none, kwonlyargs := [], kw_defaults := [], kwarg := none, defaults := [] }
def iB (q1 q2 q3 q4 : Pos) : List Stmt := [.Assign [.Attribute (.Name "self" q1) "at" q2] (.Name "at" q3) q4]
def iS : Scope := { kind := .function, names := [(PySem.Str.ofString "self", .local), (PySem.Str.ofString "at", .local)], isGenerator := false, isCoroutine := false, more := [] }
/-- what the written part says of the class E (name nm, __init__'s full name qn), at C, over the class at B -/
structure ErT (K : Frag) (mg : Str → Option Value) (nm qn : Str) (C B fI : Addr) : Prop where
  gC : mg nm = some (.ref C)
  cls : ∃ nm q N bs sn sub ab col dd k0 k1 k2 k3 k5, K.lookup C = some (excClassObj nm q C N bs (.ref B :: baseTail) true sn sub ab col dd k0 k1 k2 k3 k5 "Exception.__new__")
  sa : findIn K (.ref C) "__setattr__" = some (some (.builtin "object.__setattr__"))
  ga : findIn K (.ref C) "__getattribute__" = some (some (.builtin "BaseException.__getattribute__"))
  gg : findIn K (.ref C) "__getattr__" = some none
  noN : findIn K (.ref C) "at" = some none
  iC : findIn K (.ref C) "__init__" = some (some (.ref fI))
  tC : typeIn K (.ref fI) = some (.type "function")
  kC : keepIn K (.ref C) = true
  exC : subIn K (.ref C) (.type "BaseException") = some true
  tyC : typeIn K (.ref C) = some (.type "type")
  hdC : hasDictIn K C = true
  te : exmOne K (.ref C) (.ref C) = some true
  fn : ∃ (oc : Value) (od : Option Addr) (doc pm : Value) (an : Option Addr) (cdv ct : Value) (osl : Array (Option Value)) (p1 p2 q1 q2 q3 q4 : Pos),
    K.lookup fI = some ⟨oc, od, .func (fnOf "__init__" qn (iA p1 p2) (iB q1 q2 q3 q4) iS .none .none doc pm an cdv ct), osl⟩ ∧ codeIn K cdv qn = true
theorem one_size (v : Value) : [v].length ≤ sizeLine := by
  rw [sizeLine_eq]
  exact (by decide : 1 ≤ 16777216)
theorem ldC {M : Model} {s : Shared} {name : Str} {scope : Scope} {L a : Addr} {cd : Value} {m : Str → Option Value} {x : Str} {pos : Pos} {v : Value} {Q : Value → Shared → Prop} {A : Around} {E : Value → Shared → Prop} (hn : s.heap.Ns L m) (hv : m x = some v) (h : Q v s)
    (hk : scope.kind = .function := by rfl) (hl : (envOfC name scope L a cd).kindOf x = some .local := by rfl) (hd : (x == ("__debug__" : Str)) = false := by decide) :
    wpAny M A (eval (.Name x pos) (envOfC name scope L a cd)) Q E s := wpAny_Name (wpAny_loadName_local hk hl hn hv h) hd
/-- what __init__ leaves of a fresh exception at x -/
structure InitEnd (h h' : Heap) (x C dx t1 : Addr) (v : Value) : Prop where
  keep : ∀ b o, b ≠ x → h.get? b = some o → h'.get? b = some o
  obj : h'.get? x = some { cls := .ref C, dict := some dx, data := .fields #[.ref t1, .none, .none, .none, .bool false, .none] }
  dbig : h.objs.size ≤ dx
  dne : dx ≠ x
  ns : h'.Ns1 dx (fun y => if y = "at" then some v else none)
structure OwnMade (h h' : Heap) (e C d : Addr) (v : Value) : Prop where
  keep : ∀ b o, h.get? b = some o → h'.get? b = some o
  new : h.objs.size ≤ e
  obj : ∃ oe vs, h'.get? e = some oe ∧ oe.cls = .ref C ∧ oe.dict = some d ∧ oe.data = .fields vs ∧ vs[1]? = some .none
  dbig : h.objs.size ≤ d
  dne : d ≠ e
  ns : h'.Ns1 d (fun y => if y = "at" then some v else none)
section
variable {prog : Program} {w : World} {A : Around} {E : Value → Shared → Prop} {R : Result → Shared → Prop} {s : Shared} {K : Frag} {mg : Str → Option Value} {nm qn : Str} {C B fI : Addr}
theorem er_init (T : ErT K mg nm qn C B fI) {x t0 : Addr} {v : Value} (X : K.In s.heap) (hlim : s.heap.NoLimit) (hx : s.heap.get? x = some (excO C t0)) (hnx : K.lookup x = none) (hroom : A.depth < recursionLimit)
    (hq : ∀ h' tk dx, InitEnd s.heap h' x C dx t0 v → R (.ok (.ret .none)) { s with heap := h', toks := tk }) :
    codeAny (model prog w) A (.call (.ref fI) ⟨[.ref x, v], []⟩) R s := by
  obtain ⟨oc, od, doc, pm, an, cdv, ct, osl, p1, p2, q1, q2, q3, q4, ho, hcd⟩ := T.fn
  obtain ⟨nm', q, N, bs, sn, sub, ab, col, dd, k0, k1, k2, k3, k5, hC⟩ := T.cls
  have hcl : clsIn K C = some { name := nm', bases := bs, mro := .ref C :: .ref B :: baseTail, ns := N, qualname := q, hasDict := true, slotNames := sn, subclasses := sub, abstract := ab, collection := col, hasDel := false } := by unfold clsIn; rw [hC] <;> rfl
  refine Att.call_fn (binds := [("self", .ref x), ("at", v)]) X hlim ho hcd hroom (BindsTo.of_eq (by first | rfl | with_unfolding_all rfl)) (by first | rfl | decide | with_unfolding_all rfl) (fun s₁ IC => ?_) rfl rfl rfl
  obtain ⟨h₁, tk₁, rfl⟩ := IC.toInCall.same
  have k : ∀ b o, s.heap.get? b = some o → h₁.get? b = some o := IC.toInCall.keep
  have hn := IC.toInCall.ns
  have hxL : s.heap.objs.size ≠ x := Nat.ne_of_gt (Heap.lt_size hx)
  have X₁ : K.In h₁ := X.keeps k
  have hx₁ := k _ _ hx
  show wpAny _ _ (execs _ _) _ _ _
  refine wpAny_execs_cons (plainObj_wpAny_Assign_Attribute ?_)
  refine ldC (v := v) hn (by first | rfl | with_unfolding_all rfl | kernel_rfl) (ldC (v := .ref x) hn (by first | rfl | with_unfolding_all rfl | kernel_rfl) ?_)
  refine set_plain X₁ (ox := excO C t0) (od := none) ⟨hx₁, rfl, rfl, trivial⟩ T.sa ?_
  refine first_store X₁ hx₁ hcl ⟨B, rfl⟩ rfl T.noN (fun h₃ tk₃ dx k₃ dn dne hx₃ hn₃ => ?_)
  show wpAny _ _ (execs _ _) _ _ _
  have z : s.heap.objs.size < h₁.objs.size := hn.lt
  exact wpAny_execs_nil (hq h₃ tk₃ dx ⟨fun b o hb e => k₃ b o hb (k b o e), hx₃, Nat.le_of_lt (Nat.lt_of_lt_of_le z dn), dne, hn₃⟩)
theorem er_made (T : ErT K mg nm qn C B fI) {v : Value} (X : K.In s.heap) (hlim : s.heap.NoLimit) (hroom : A.depth + 1 < recursionLimit)
    (hq : ∀ h' tk e d, OwnMade s.heap h' e C d v → R (.ok (.ret (.ref e))) { s with heap := h', toks := tk }) :
    codeAny (model prog w) A (.call (.ref C) ⟨[v], []⟩) R s := by
  obtain ⟨nm', q, N, bs, sn, sub, ab, col, dd, k0, k1, k2, k3, k5, hC⟩ := T.cls
  obtain ⟨hp, g, dr, tk, os⟩ := s
  have k : ∀ b o, hp.get? b = some o → ((hp.push (kdv_tup [v])).push (excO C hp.objs.size)).get? b = some o := fun b o e => Heap.get?_push_of_some _ (Heap.get?_push_of_some _ e)
  have hget : ((hp.push (kdv_tup [v])).push (excO C hp.objs.size)).get? (hp.objs.size + 1) = some (excO C hp.objs.size) := by heap_get
  have hnx : K.lookup (hp.objs.size + 1) = none := by
    cases e : K.lookup (hp.objs.size + 1) with
    | none => rfl
    | some o =>
      have z : hp.get? (hp.objs.size + 1) = some o := X _ _ e
      exact absurd (Nat.lt_of_succ_lt (Heap.lt_size z)) (Nat.lt_irrefl _)
  refine call_own F.excBase_Exception (fun X => two_contains B X) (X _ _ hC) (looks_findIn X T.iC) (fun self => bind_fn X self T.tC) (one_size v) ?_
  refine er_init (s := ⟨(hp.push (kdv_tup [v])).push (excO C hp.objs.size), g, dr, tk, os⟩) T (X.keeps k) (hlim.keeps k) hget hnx ?_ fun h' tk' dx ⟨k', hx, dn, dne, hns⟩ => ?_
  · show A.depth + 1 < recursionLimit
    exact hroom
  · have old : ∀ b o, hp.get? b = some o → h'.get? b = some o := fun b o e => k' b o (Nat.ne_of_lt (Nat.lt_succ_of_lt (Heap.lt_size e))) (k b o e)
    have z : hp.objs.size + 1 + 1 ≤ dx := by
      first
        | (simpa only [Heap.size_push] using dn)
        | exact dn
        | (have q := dn; rw [Heap.size_push, Heap.size_push] at q; exact q)
    exact ⟨rfl, hq h' tk' (hp.objs.size + 1) dx ⟨old, Nat.le_succ _, ⟨_, _, hx, rfl, rfl, rfl, rfl⟩, Nat.le_trans (Nat.le_trans (Nat.le_succ _) (Nat.le_succ _)) z, dne, hns⟩⟩
end
end ErX
end PySem
namespace VL
open PySem PySem.Spec PyProof.Rows L2
theorem relO_at {v : V} {v' : Value} (r : RelV v v') (f : Str) : RelO (List.lookup f [(atS, v)]) (if f = "at" then some v' else none) := by
  by_cases hw : f = "at"
  · subst hw
    rw [if_pos rfl]
    have q : List.lookup atS [(atS, v)] = some v := by simp [List.lookup]
    rw [q]
    exact r
  · rw [if_neg hw]
    have qw : (f == atS) = false := by simpa using hw
    have q2 : List.lookup f [(atS, v)] = none := by simp [List.lookup, qw]
    rw [q2]
    trivial
section
variable {X : Cx} {nm qn : Str} {C B fI : Addr}
/-- E(e) -/
def tMkE (C : Addr) (ta : TA) : Sg → Hp → XK → Prop := fun σ H Q => ta σ H fun vs H1 => ∃ v, vs = [v] ∧ ∀ d, H1 d = none → Q (.ref C) (some d) (upd H1 d (.xd [(atS, v)]))
theorem pmk_e {a : Expr} {ta : TA} {p pos : Pos} {k : Nat} (T : PySem.ErX.ErT X.K X.mg nm qn C B fI) (hr : Room k X.A) (ha : PA X [a] ta) (hg : Gl X nm) (hdb : (nm == ("__debug__" : Str)) = false)
    (he : starEach (a :: []) X.env = (false, eval a X.env) :: starEach [] X.env := by rfl) (hpl : (backTo pos (starEach [] X.env)).any (·.1) = false := by rfl) :
    PMk X (.Call (.Name nm p) [a] [] pos) (tMkE C ta) := by
  intro pins s σ H Q I h
  refine wpAny_Call_Name_kw (ld_glob I hg T.gC ?_ hdb)
  refine PySem.W.callWith_K (h₀ := X.base) I.ok.mod.kin T.kC (thn (ha.run pos pins s σ H _ I h) fun us s1 hh => ?_) he hpl
  obtain ⟨vs, H1, I1, r1, v, ev, q1⟩ := hh
  subst ev
  refine ⟨I1.kIn, ?_⟩
  cases r1 with
  | cons rv rn =>
    rename_i v' us'
    cases rn
    show wpAny _ _ (call (.ref C) [v']) _ _ _
    have hlim := I1.nolimit
    obtain ⟨hp, g, dr, tk, os⟩ := s1
    refine wpAny_call (PySem.ErX.er_made T I1.kIn hlim (by have := hr.dp; omega) fun h' tk' e d M => ?_)
    show MkP X pins σ Q (.ref e) ⟨h', g, dr, tk', os⟩
    obtain ⟨oe, fv, hoe, hc, hd, hdat, h1⟩ := M.obj
    have hns := M.ns
    obtain ⟨G', g1, g2⟩ := restrict h' fun b => decide (b ≠ e)
    have gk : ∀ b, b ≠ e → G'.get? b = h'.get? b := fun b hb => g1 b (decide_eq_true hb)
    have ge : G'.get? e = none := g2 e (by simp)
    have old : ∀ b o, hp.get? b = some o → G'.get? b = some o := fun b o q => (gk b (Nat.ne_of_lt (Nat.lt_of_lt_of_le (Heap.lt_size q) M.new))).trans (M.keep b o q)
    have ob : ObjOk X.prog X.w (upd H1 d (.xd [(atS, v)])) G' d (.xd [(atS, v)]) :=
      ⟨_, hns.at (fun o q => (gk d M.dne).trans q), fun f => relO_at rv f⟩
    have J : Inv X pins σ (upd H1 d (.xd [(atS, v)])) ⟨G', g, dr, tk', os⟩ := I1.laid (t' := tk') old M.dbig ob
    refine ⟨e, oe, fv, ⟨G', g, dr, tk', os⟩, _, .ref C, some d, rfl, J, fun b o q => ?_, ge, hoe, ⟨hc, hd⟩, hdat, h1, ?_, rfl, I1.bare, raises_own T.exC T.tyC, q1 d (I1.hok.fresh M.dbig)⟩
    · by_cases hb : b = e
      · have q' : G'.get? b = some o := q
        rw [hb, ge] at q'; cases q'
      · exact (gk b hb).symm.trans q
    · rw [upd_ne (Ne.symm M.dne)]
      exact I1.hok.fresh M.new
/-- raise E(e) -/
def tRse (C : Addr) (W : WX) (ta : TA) : TS := fun _ σ H => tMkE C ta σ H fun cls d H' => W cls d σ H'
theorem ps_rse {a : Expr} {ta : TA} {W : WX} {p pos pos2 : Pos} {k : Nat} (hc : X.calm = true) (T : PySem.ErX.ErT X.K X.mg nm qn C B fI) (hr : Room k X.A) (tk : Takes X W) (ha : PA X [a] ta) (hg : Gl X nm) (hdb : (nm == ("__debug__" : Str)) = false)
    (he : starEach (a :: []) X.env = (false, eval a X.env) :: starEach [] X.env := by rfl) (hpl : (backTo pos (starEach [] X.env)).any (·.1) = false := by rfl) :
    PS X (.Raise (some (.Call (.Name nm p) [a] [] pos)) none pos2) (tRse C W ta) := ps_raise hc tk (pmk_e T hr ha hg hdb he hpl)
/-- e.at, e the exception that the suite holds (at a; its class cls, its dict d) -/
def tAtE (C : Addr) (a : Addr) (cls : Value) (d : Option Addr) (te : TE) : TE := fun σ H Q => te σ H fun x H1 => x = .ref a ∧ cls = .ref C ∧ ∃ (dd : Addr) (v : V), d = some dd ∧ H1 dd = some (.xd [(atS, v)]) ∧ Q v H1
theorem pe_atE {a : Addr} {oe : Obj} {cls : Value} {d : Option Addr} {pn : List (Addr × Obj)} {e : Expr} {te : TE} {pos : Pos} (T : PySem.ErX.ErT X.K X.mg nm qn C B fI) (hz : Zc cls d oe) (hf : ∃ vs, oe.data = .fields vs) (he : PE (X.suite a ((a, oe) :: pn)) e te)
    (hb : attributeBase e "at" X.env (eval e X.env) = eval e X.env := by rfl) :
    PE (X.suite a ((a, oe) :: pn)) (.Attribute e "at" pos) (tAtE C a cls d te) := by
  refine ⟨fun pins s σ H Q I h => ?_⟩
  refine attr_of hb (thn (he.run pins s σ H _ I h) fun u s1 hh => ?_)
  obtain ⟨x, H1, I1, rx, ex, ec, dd, v, ed, ea, q⟩ := hh
  subst ex
  obtain rfl : u = Value.ref a := rx
  subst ec
  subst ed
  obtain ⟨ha, _⟩ := I1.pin (a, oe) (List.mem_append_left _ List.mem_cons_self)
  obtain ⟨vs, hd⟩ := hf
  have hx : ObjOk X.prog X.w H1 s1.heap dd (.xd [(atS, v)]) := I1.hok dd _ ea
  obtain ⟨mA, hns, hr⟩ := hx
  obtain ⟨od, ho, hl⟩ := lookIn_ns hns
  have l : List.lookup atS [(atS, v)] = some v := by simp [List.lookup]
  obtain ⟨u, hu, ru⟩ := RelO.some_of (v := v) (o := mA "at") (by rw [← l]; exact hr "at")
  have J : PySem.W.InstAt s1.heap a oe C (some od) := ⟨ha, hz.1, by unfold PySem.W.notCls; rw [hd] <;> rfl, by rw [hz.2]; exact ho⟩
  exact HandSPX.exc_get I1.kIn J T.ga T.gg T.exC (PySem.W.findObj_own T.hdC T.noN rfl (by rw [hl, hu])) (handed_of ru) ⟨v, H1, I1.tok _, ru, q⟩
end
/-! ### what they do to data -/
def rseO (tag : Nat) (ds : List D) (ρ : Rho) : So := match ds with
  | [d] => .ex tag d ρ
  | _ => .bad
def rseS (tag : Nat) (F : Rho → Ou (List D)) : Rho → So := fun ρ => bs (F ρ) (rseO tag)
theorem sem_rse {p : Pm} {EX : WX} {tag : Nat} {C : Addr} (hC : p.xc tag = C) {t : TA} {F : Rho → Ou (List D)} (h : SemAD p EX t F) : SemS p EX (tRse C EX t) (rseS tag F) := by
  intro R H O σ ρ E S g
  refine h.useS S g fun R1 H1 O1 ρ1 vs ds S1 T1 hv g1 => ?_
  unfold rseO at g1
  split at g1
  · rename_i d
    cases hv with
    | @cons v0 _ _ _ h1 h2 =>
      cases h2
      refine ⟨_, rfl, fun dx nd => ?_⟩
      have na : R1 dx = none := by
        cases e : R1 dx with
        | none => rfl
        | some o => have := S1.sub dx o e; rw [nd] at this; cases this
      have k : ∀ b u, H1 b = some u → upd H1 dx (.xd [(atS, v0)]) b = some u := fun b u e => by rw [upd_ne (ne_of_none e nd)]; exact e
      have S2 : Stt p R1 (upd H1 dx (.xd [(atS, v0)])) O1 σ ρ1 := (S1.laid nd).1.sub |> fun sb =>
        ⟨sb, S1.dis, fun b ob => by
          cases q : H1 b with
          | none => exact (S1.al b ob q).elim
          | some u => rw [k b u q]; exact (fun z => nomatch z), S1.len, S1.im, fun i b es e => by
          obtain ⟨c, ws, e1, e2, e3, e4⟩ := S1.ow i b es e
          exact ⟨c, ws, e1, e2, k _ _ e3, e4⟩, S1.pn, S1.inj, fun i tg d e => by
          obtain ⟨e1, e2, dd, v, e3, e4, e5, e6⟩ := S1.xn i tg d e
          exact ⟨e1, e2, dd, v, e3, e4, k _ _ e5, e6⟩⟩
      have T2 : Tr R1 H1 O1 R1 (upd H1 dx (.xd [(atS, v0)])) O1 := ⟨fun _ _ e => e, fun b u e _ => k b u e, fun b e => .inl e, fun b e => .inl e, fun b e => by
        cases q : H1 b with
        | none => exact absurd q e
        | some u => rw [k b u q]; exact fun z => nomatch z⟩
      rw [← hC]
      exact g1 dx _ σ R1 _ O1 S2 T2 nd upd_same (fun z => S1.al dx z nd) h1
  · exact g1.elim
/-- e.at -/
def atF (i : Nat) (tag : Nat) : Rho → Ou Rs := fun ρ => match ρ[i]? with
  | some (.xn t d) => if t = tag then .ok (.im d) ρ else .bad
  | _ => .bad
theorem sem_at {p : Pm} {EX : WX} {i tag : Nat} {C : Addr} (hC : p.xc tag = C) : SemE p EX (tAtE C p.xa p.xcl p.xd (tVar i)) (atF i tag) := by
  intro R H O σ ρ Q S g
  unfold atF at g
  split at g
  · rename_i t d e
    split at g
    · rename_i ht
      subst ht
      obtain ⟨e1, e2, dd, v, e3, e4, e5, e6⟩ := S.xn i t d e
      exact ⟨_, e1, rfl, by rw [← hC]; exact e2, dd, v, e3, e5, g v R H O S .refl e6⟩
    · exact g.elim
  · exact g.elim
end VL

namespace VL
open PySem PySem.Spec PyProof.Rows L2
/-! ### isinstance -/
def tyN : D → String
  | .none => "NoneType"
  | .bool _ => "bool"
  | .int _ => "int"
  | .str _ => "str"
  | .list _ => "list"
  | .tuple _ => "tuple"
  | .dict _ => "dict"
theorem tyx_of {K : PySem.W.Frag} {R H : Hp} {v : V} {d : D} (m : ∀ b o, R b = some o → H b = some o) (h : Vr K R H v d) : TyX K H v (.type (tyN d)) := by
  cases d with
  | none => cases h; exact .base .non
  | bool b => cases h; exact .base (.bl b)
  | int i => cases h; exact .base (.int i)
  | str x => cases h; exact .base (.str x)
  | dict k => have h : Dp K R v (.dict k) := h; cases h
  | list ds =>
    obtain ⟨a, vs, rfl, hs, _⟩ := h
    rcases hs with (e | ⟨o, e⟩) | ⟨o, its, n, e, c, _⟩
    · exact .base (.lst e)
    · exact .base (.frz e)
    · exact .kList e c
  | tuple ds =>
    have h : Dp K R v (.tuple ds) := h
    cases h with
    | tup hs _ =>
      rcases sqT_mono m hs with (e | ⟨o, e⟩) | ⟨o, its, n, e, c, _⟩
      · exact .base (.tup e)
      · exact .fTuple e
      · exact .kTuple e c
/-- T one of the types that the program asks for -/
def isS (T s : String) : Bool := s == T || (T == "int" && s == "bool")
def isI (T : String) (d : D) : Bool := isS T (tyN d)
theorem kit_all : ∀ s ∈ ["NoneType", "bool", "int", "str", "list", "tuple", "dict"], ∀ T ∈ ["int", "bool", "str", "list", "tuple"], kitB s T = some (isS T s) := by decide +kernel
theorem tyN_mem (d : D) : tyN d ∈ ["NoneType", "bool", "int", "str", "list", "tuple", "dict"] := by cases d <;> simp [tyN]
theorem kit1 {K : PySem.W.Frag} {T : String} (hT : T ∈ ["int", "bool", "str", "list", "tuple"]) (d : D) : PySem.W.kitOne K (.type (tyN d)) (.type T) = some (isI T d) := kit_ty (kit_all _ (tyN_mem d) T hT)
def isiD (T : String) (d : D) : Option Rs := some (.im (.bool (isI T d)))
def tIsi (K : PySem.W.Frag) (T : String) (t : TE) : TE := tCB (rIsi K) (tCons t (tCons (tC (.ty T)) tNil))
theorem sem_isi {p : Pm} {EX : WX} {T : String} (hT : T ∈ ["int", "bool", "str", "list", "tuple"]) {t : TE} {F : Rho → Ou Rs} (h : SemE p EX t F) : SemE p EX (tIsi p.K T t) (unF (isiD T) F) :=
  sem_un (r := fun x H Q => rIsi p.K [x, .ty T] H Q) (fun R H v d z Q m hv e o => by
    cases Option.some.inj e
    exact ⟨v, .ty T, _, .type T, _, rfl, .ty T, tyx_of m hv, kit1 hT d, o _ R H (.refl m) (.bl _)⟩) h
def tIsi2 (K : PySem.W.Frag) (T U : String) (t : TE) : TE := tCB (rIsiT K) (tCons t (tCons (tTup (tCons (tC (.ty T)) (tCons (tC (.ty U)) tNil))) tNil))
def isi2D (T U : String) (d : D) : Option Rs := some (.im (.bool (isI T d || isI U d)))
theorem sem_isi2 {p : Pm} {EX : WX} {T U : String} (hT : T ∈ ["int", "bool", "str", "list", "tuple"]) (hU : U ∈ ["int", "bool", "str", "list", "tuple"]) {t : TE} {F : Rho → Ou Rs} (h : SemE p EX t F) :
    SemE p EX (tIsi2 p.K T U t) (unF (isi2D T U) F) :=
  sem_un (r := fun x H Q => [V.ty T, .ty U].length ≤ sizeLine ∧ ∀ q, H q = none → rIsiT p.K [x, .ref q] (upd H q (.tup [.ty T, .ty U])) Q) (fun R H v d z Q m hv e o => by
    cases Option.some.inj e
    refine ⟨by show 2 ≤ sizeLine; decide, fun q hq => ?_⟩
    have gr : Grow R H R (upd H q (.tup [.ty T, .ty U])) := ⟨fun _ _ e => e, fun b u e => by rw [upd_ne (ne_of_none e hq)]; exact e, fun b u e => by rw [upd_ne (ne_of_none (m b u e) hq)]; exact m b u e, fun b e => .inl e⟩
    have hv2 : TyX p.K (upd H q (.tup [.ty T, .ty U])) v (.type (tyN d)) := by
      refine tyx_of (R := R) gr.s ?_
      cases d with
      | list ds => obtain ⟨a, vs, e1, hs, hd⟩ := hv; exact ⟨a, vs, e1, sqL_mono gr.h hs, hd⟩
      | none => exact hv
      | bool _ => exact hv
      | int _ => exact hv
      | str _ => exact hv
      | tuple _ => exact hv
      | dict _ => exact hv
    refine ⟨v, q, _, _, [.type T, .type U], _, rfl, upd_same, .cons (.ty T) (.cons (.ty U) .nil), hv2, ?_, o _ R _ gr (.bl _)⟩
    refine kitAny_cons (kit1 hT d) (fun hb => ?_) (fun hb => by rw [hb]; rfl)
    rw [hb, Bool.false_or]
    exact kitAny_cons (kit1 hU d) (fun hc => by rw [hc]; exact kitAny_nil) (fun hc => hc)) h

/-! ### isinstance(e, B), e the error that the suite holds, B its class's base -/
end VL
namespace PySem.W
open PySem PySem.Spec PySem.Calls PyProof.Rows
section
variable {prog : Program} {w : World} {A : Around} {E : Value → Shared → Prop} {s : Shared} {K : Frag} {x D : Addr} {ox : Obj} {od : Option Obj}
/-- what a class of errors must say -/
structure ErC (K : Frag) (D : Addr) : Prop where
  g : findIn K (.ref D) "__getattribute__" = some (some (.builtin "BaseException.__getattribute__"))
  k : findIn K (.ref D) "__getattr__" = some none
  s : subIn K (.ref D) (.type "BaseException") = some true
  d : hasDictIn K D = true
  a : findIn K (.ref D) "__class__" = some (some (.builtin "object.__class__"))
  n : specialIn K (.builtin "object.__class__") "__get__" = some (some (.builtin "getset_descriptor.__get__"))
  t : takesIn K (.builtin "object.__class__") = some true
  m : mroIn K D (.type "object") = some true
theorem find_cls {C : Addr} {name : Str} {a g : Value} (hc : (clsIn K C).isSome = true) (ha : findIn K (.ref C) name = some (some a)) (hg : specialIn K a "__get__" = some (some g)) (ht : takesIn K a = some true) : findObj K C od name = some (.bind g a) := by
  obtain ⟨cd, hc⟩ := Option.isSome_iff_exists.mp hc
  unfold findObj
  rw [hc, Option.bind_some, ha, Option.bind_some]
  simp [hg, ht]
theorem er_class {Q : Option Value → Shared → Prop} (C : ErC K D) (X : K.In s.heap) (I : InstAt s.heap x ox D od) (h : Q (some (.ref D)) { s with toks := s.toks + 1 }) : wpAny (model prog w) A (getAttr? (.ref x) "__class__") Q E s := by
  have fo : findObj K D od "__class__" = some (.bind (.builtin "getset_descriptor.__get__") (.builtin "object.__class__")) := find_cls (by obtain ⟨cd, hc, _⟩ := any_some C.d; rw [hc]; rfl) C.a C.n C.t
  obtain ⟨hp, g, d, t, os⟩ := s
  have T0 := I.type (M := model prog w)
  have T1 := looks_findIn (M := model prog w) X C.g
  have T2 := looks_findIn (M := model prog w) X C.k
  have T3 := looks_find (M := model prog w) X I fo
  have isB : Looks (model prog w) hp (isInstance (.ref x) (.type "BaseException")) true := T0.andThen (looks_subIn X C.s)
  have b2 : (Value.builtin "BaseException.__getattribute__" == Value.builtin "object.__getattribute__") = false := by decide +kernel
  unfold getAttr? getAttrBy? getAttrBy
  refine wpAny_bind (wpAny_mkText (wpAny_bind (wpAny_attempt (wpAny_holding (wpAny_bind (T0.at (wpAny_bind (T1.at ?_))))))))
  show wpAny _ _ (if (onTheHeap (Value.ref D) && Value.builtin "BaseException.__getattribute__" == Value.builtin "object.__getattribute__") = true then _ else _) _ _ _
  rw [b2, Bool.and_false, if_neg Bool.false_ne_true]
  unfold getAttrByItsOwn hookBefore
  refine wpAny_bind ?_
  rw [if_pos (show onTheHeap (Value.ref D) = true from rfl)]
  refine T2.at (wpAny_bind (wpAny_attempt (wpAny_holding ?_)))
  unfold callGetattribute
  rw [Bool.false_and, if_neg Bool.false_ne_true]
  unfold boundAndCalled
  rw [PySem.F.excAttr_ValueError.ga.bind (.ref x)]
  refine wpAny_bind (wpAny_pure ?_)
  show wpAny _ _ (call (.builtin "BaseException.__getattribute__") [.ref x, .str "__class__" t]) _ _ _
  refine wpAny_call (codeAny_call_builtin PySem.F.excAttr_ValueError.ga.plain PySem.F.entry_bexc_ga (@check_slot (model prog w) _ _ ⟨hp, g, d, t + 1, os⟩ "BaseException.__getattribute__" "BaseException" "__getattribute__" (.ref x) [.str "__class__" t] [] _ (by decide +kernel) (by decide +kernel) isB (PySem.F.args_bexc_ga (.ref x) (.str "__class__" t)) ?_))
  unfold Builtin.«object.__getattribute__»
  refine wpAny_bind (wpAny_of_eq (a := ((Value.ref x : Value), [Value.str "__class__" t])) (by first | rfl | (simp only [slotArgs]; rfl)) (wpAny_bind (wpAny_pure (wpAny_bind (T0.at (wpAny_bind (T3.at ?_)))))))
  show wpAny _ _ (holding [Value.builtin "object.__class__"] (call (.builtin "getset_descriptor.__get__") [.builtin "object.__class__", .ref x, .ref D]) >>= ret) _ _ _
  refine wpAny_bind (wpAny_holding (wpAny_call (class_get (s := ⟨hp, g, d, t + 1, os⟩) (ox := ox) (od := od) X I C.m (wpAny_pure ?_))))
  show wpAny _ _ (handedOut (.ref D)) _ _ _
  rw [handedOut_of (v := .ref D) rfl]
  first
    | exact wpAny_pure (wpAny_pure h)
    | exact wpAny_pure h
    | exact wpAny_pure (wpAny_bind (wpAny_pure (wpAny_pure h)))
theorem er_kit (C : ErC K D) : KitX K (.ref x) (.ref D) (fun h => InstAt h x ox D od) where
  ty := fun _ _ _ I => I.type
  it := fun _ _ X _ => by
    obtain ⟨cd, hc, _⟩ := any_some C.d
    unfold clsIn at hc
    split at hc
    · rename_i c1 c2 c3 c4 ho
      intro A' Q' E' s' k q
      unfold isType loadHead
      exact wpAny_bind (wpAny_loadPart (k _ _ (X _ _ ho)) (wpAny_pure q))
    · cases hc
  ne := fun h tp dd its n sl X htp => by
    obtain ⟨cd, hc, _⟩ := any_some C.d
    refine Bool.eq_false_iff.mpr fun q => ?_
    have e : D = tp := Value.ref.inj (beq_iff_eq.mp q)
    subst e
    unfold clsIn at hc
    split at hc
    · rename_i c1 c2 c3 c4 ho
      have z := (X _ _ ho).symm.trans htp
      cases z
    · cases hc
  ca := fun X I k => er_class C X I k
end
end PySem.W
namespace VL
open PySem PySem.Spec PyProof.Rows L2
/-- isinstance(e, B) -/
def rIsB (D B a : Addr) (cls : Value) (d : Option Addr) : List V → Hp → VK → Prop := fun xs H Q => xs = [.ref a, .ref B] ∧ cls = .ref D ∧ (∃ dd u, d = some dd ∧ H dd = some (.xd u)) ∧ Q (.bl true) H
theorem call_isErr {X : Cx} {a D B : Addr} {oe : Obj} {cls : Value} {d : Option Addr} {pn : List (Addr × Obj)} (C : PySem.W.ErC X.K D) (hB : PySem.W.kitOne X.K (.ref D) (.ref B) = some true) (hz : Zc cls d oe) (hf : ∃ vs, oe.data = .fields vs) :
    CallR (X.suite a ((a, oe) :: pn)) (.builtin "isinstance") (rIsB D B a cls d) := by
  intro pins s σ H xs us Q I r h
  obtain ⟨rfl, ec, ⟨dd, u, ed, ea⟩, q⟩ := h
  obtain ⟨u1, u2, rfl, r1, r2⟩ := vals2 r
  cases (show u1 = Value.ref a from r1)
  cases (show u2 = Value.ref B from r2)
  subst ec ed
  obtain ⟨ha, _⟩ := I.pin (a, oe) (List.mem_append_left _ List.mem_cons_self)
  obtain ⟨vs, hd⟩ := hf
  have hx : ObjOk X.prog X.w H s.heap dd (.xd u) := I.hok dd _ ea
  obtain ⟨mA, hns, hr⟩ := hx
  obtain ⟨od, ho, hl⟩ := lookIn_ns hns
  have J : PySem.W.InstAt s.heap a oe D (some od) := ⟨ha, hz.1, by unfold PySem.W.notCls; rw [hd] <;> rfl, by rw [hz.2]; exact ho⟩
  exact PySem.W.kia_one (PySem.W.er_kit C) I.kIn J hB (fun z => nomatch z) fun tk => ⟨.bl true, H, I.kept (t' := tk) fun _ _ z => z, rfl, q⟩
def isBF (i tag : Nat) : Rho → Ou Rs := fun ρ => match ρ[i]? with
  | some (.xn t _) => if t = tag then .ok (.im (.bool true)) ρ else .bad
  | _ => .bad
theorem sem_isB {p : Pm} {EX : WX} {i tag : Nat} {C B : Addr} (hC : p.xc tag = C) : SemE p EX (tCB (rIsB C B p.xa p.xcl p.xd) (tCons (tVar i) (tCons (tC (.ref B)) tNil))) (isBF i tag) := by
  intro R H O σ ρ Q S g
  unfold isBF at g
  split at g
  · rename_i t d e
    split at g
    · rename_i ht
      subst ht
      obtain ⟨e1, e2, dd, v, e3, e4, e5, e6⟩ := S.xn i t d e
      exact ⟨_, e1, rfl, by rw [← hC]; exact e2, ⟨dd, _, e3, e5⟩, g _ R H O S .refl (.bl true)⟩
    · exact g.elim
  · exact g.elim

/-! ### try -/
def noXn (ρ : Rho) : Bool := ρ.all fun s => match s with
  | .xn _ _ => false
  | _ => true
theorem noXn_at {ρ : Rho} (h : noXn ρ = true) {i : Nat} {t : Nat} {d : D} : ρ[i]? ≠ some (.xn t d) := fun e => by
  have := List.all_eq_true.mp h _ (List.mem_of_getElem? e)
  cases this
theorem Stt.pm {p q : Pm} {R H : Hp} {O : As} {σ : Sg} {ρ : Rho} (S : Stt p R H O σ ρ) (hK : q.K = p.K) (hp : q.pin = p.pin) (hx : q.xc = p.xc) (h : noXn ρ = true) : Stt q R H O σ ρ :=
  ⟨S.sub, S.dis, S.al, S.len, by rw [hK]; exact S.im, by rw [hK]; exact S.ow, fun i y v e hv => S.pn i y v e (by rw [← hv]; unfold fx; rw [hp, hx]), S.inj, fun i t d e => (noXn_at h e).elim⟩
/-- behind the suite its name is gone -/
def goneS (i : Nat) (o : So) : So := match o with
  | .nx ρ => if noXn (ρ.set i .un) = true then .nx (ρ.set i .un) else .bad
  | .rt r ρ => match r with
    | .im d => if noXn (ρ.set i .un) = true then .rt (.im d) (ρ.set i .un) else .bad
    | _ => .bad
  | _ => .bad
def tryS (tag i : Nat) (B U : Rho → So) : Rho → So := fun ρ => match B ρ with
  | .ex t d ρ' => if t = tag ∧ noXn ρ' = true ∧ pinned ρ' i = false ∧ i < ρ'.length then goneS i (U (ρ'.set i (.xn t d))) else .bad
  | o => o
def pmX (p : Pm) (a : Addr) (cls : Value) (d : Option Addr) : Pm := ⟨p.K, p.xc, p.pin, a, cls, d⟩
theorem sem_try {p : Pm} {EX : WX} {tag i : Nat} {C : Addr} (hC : p.xc tag = C) (hte : PySem.W.exmOne p.K (.ref C) (.ref C) = some true) {Wout : WX} {tb : WX → TS} {ts : Addr → Value → Option Addr → TS} {B U : Rho → So}
    (hb : ∀ W, SemS p W (tb W) B) (hu : ∀ a d, SemS (pmX p a (.ref C) d) EX0 (ts a (.ref C) d) U) : SemS p EX (fun E σ H => tb (wAs p.K (.ref C) i ts Wout E) E σ H) (tryS tag i B U) := by
  intro R H O σ ρ E S g
  refine hb _ R H O σ ρ E S ?_
  unfold tryS at g
  cases e : B ρ with
  | bad => rw [e] at g; exact g
  | nx ρ' => rw [e] at g; exact g
  | rt r ρ' => rw [e] at g; exact g
  | bk ρ' => rw [e] at g; exact g
  | ct ρ' => rw [e] at g; exact g
  | ex t d ρ' =>
    rw [e] at g
    have g9 : GoodS p EX R H O E (if t = tag ∧ noXn ρ' = true ∧ pinned ρ' i = false ∧ i < ρ'.length then goneS i (U (ρ'.set i (.xn t d))) else .bad) := g
    clear g
    split at g9
    · rename_i hh
      obtain ⟨rfl, hn, hp, hi⟩ := hh
      intro dx v σ' R' H' O' S' T' fx hx no hv
      rw [hC]
      refine ⟨true, hte, fun _ a ha => ?_, fun z => Bool.noConfusion z⟩
      have S2 : Stt (pmX p a (.ref C) (some dx)) R' H' O' (σ'.set i (some (.ref a))) (ρ'.set i (.xn t d)) := by
        have Sq : Stt (pmX p a (.ref C) (some dx)) R' H' O' σ' ρ' := S'.pm rfl rfl rfl hn
        have Sn := set_none Sq hp
        have other : ∀ {j : Nat}, i ≠ j → (σ'.set i (some (V.ref a)))[j]? = σ'[j]? := fun h => List.getElem?_set_ne h
        refine ⟨Sq.sub, Sq.dis, Sq.al, by rw [List.length_set, List.length_set]; exact Sq.len, fun j d' q => ?_, fun j b ds q => ?_, fun j y w q hw => ?_, fun j k b c ds es x q1 q2 y1 y2 => ?_, fun j t' d' q => ?_⟩
        · rcases set_get q with ⟨_, z⟩ | ⟨n, z⟩
          · cases z
          · rw [other n]; exact Sq.im j d' z
        · rcases set_get q with ⟨_, z⟩ | ⟨n, z⟩
          · cases z
          · rw [other n]; exact Sq.ow j b ds z
        · rcases set_get q with ⟨_, z⟩ | ⟨n, z⟩
          · subst z; cases hw
          · rw [other n]; exact Sq.pn j y w z hw
        · rcases set_get q1 with ⟨_, z1⟩ | ⟨n1, z1⟩
          · cases z1
          · rcases set_get q2 with ⟨_, z2⟩ | ⟨n2, z2⟩
            · cases z2
            · rw [other n1] at y1; rw [other n2] at y2; exact Sq.inj j k b c ds es x z1 z2 y1 y2
        · rcases set_get q with ⟨rfl, z⟩ | ⟨n, z⟩
          · cases z
            refine ⟨?_, ?_, dx, v, rfl, no, hx, hv⟩
            · rw [List.getElem?_set_self (by rw [← Sq.len]; exact hi)]; rfl
            · show Value.ref C = .ref (p.xc t); rw [hC]
          · exact (noXn_at hn z).elim
      refine hu a (some dx) R' H' O' _ _ _ S2 ?_
      have g := g9.tr T'
      have fixS : ∀ {σ3 : Sg} {R3 H3 : Hp} {O3 : As} {ρ3 : Rho}, Stt (pmX p a (.ref C) (some dx)) R3 H3 O3 σ3 ρ3 → noXn (ρ3.set i .un) = true → Stt p R3 H3 O3 σ3 (ρ3.set i .un) := fun S3 h => (S3.put (i := i) (x := .un) (.inl rfl)).pm rfl rfl rfl h
      cases eu : U (ρ'.set i (.xn t d)) with
      | bad => rw [eu] at g; exact g
      | bk ρ3 => rw [eu] at g; exact g.elim
      | ct ρ3 => rw [eu] at g; exact g.elim
      | ex t' d' ρ3 => rw [eu] at g; exact g.elim
      | nx ρ3 =>
        rw [eu] at g
        have g : GoodS p EX R' H' O' E (if noXn (ρ3.set i .un) = true then .nx (ρ3.set i .un) else .bad) := g
        split at g
        · rename_i h3
          intro σ3 R3 H3 O3 S3 T3
          refine g (σ3.set i none) R3 H3 O3 ?_ T3
          have S4 := fixS S3 h3
          have S5 := set_none S4 (i := i) (by unfold pinned; cases q : (ρ3.set i .un)[i]? with
            | none => rfl
            | some y => rcases set_get q with ⟨_, z⟩ | ⟨n, _⟩
                        · subst z; rfl
                        · exact (n rfl).elim)
          rw [List.set_set] at S5
          exact S5
        · exact g.elim
      | rt r ρ3 =>
        rw [eu] at g
        cases r with
        | fr _ => exact g.elim
        | sl _ => exact g.elim
        | im d3 =>
          have g : GoodS p EX R' H' O' E (if noXn (ρ3.set i .un) = true then .rt (.im d3) (ρ3.set i .un) else .bad) := g
          split at g
          · rename_i h3
            exact fun v3 σ3 R3 H3 O3 S3 T3 hr => g v3 σ3 R3 H3 O3 (fixS S3 h3) T3 hr
          · exact g.elim
    · exact g9.elim

/-! ### a, b = x, y -/
def nrm (o : Ou Rs) : Ou Rs := bd o fun r ρ => match r with
  | .sl i => bd (thaw i ρ) fun d ρ' => .ok (.im d) ρ'
  | r => .ok r ρ
theorem SemE.nrm {p : Pm} {EX : WX} {t : TE} {F : Rho → Ou Rs} (h : SemE p EX t F) : SemE p EX t (fun ρ => nrm (F ρ)) := by
  refine Sem.bind (k := fun b _ H Q => Q b H) h fun R H O σ ρ b a Q S r g => ?_
  cases a with
  | im d => exact g b R H O S .refl r
  | fr ds => exact g b R H O S .refl r
  | sl i =>
    obtain ⟨c, ds, _, e⟩ := r
    have g : Good p EX (Rr p.K) R H O σ Q (bd (thaw i ρ) fun d ρ' => .ok (Rs.im d) ρ') := g
    cases q : thaw i ρ with
    | bad => rw [q] at g; exact g.elim
    | ex t d ρ' => exact (thaw_ex q).elim
    | ok d ρ' =>
      rw [q] at g
      obtain ⟨R', O', S', T', d'⟩ := thaw_ok S q e
      exact g b R' H O' S' T' d'
def two (i j : Nat) (r s : Rs) (ρ : Rho) : So := if pinned ρ i = true ∨ pinned ρ j = true ∨ i = j then .bad else match r, s with
  | .im d, .im e => .nx ((ρ.set i (.im d)).set j (.im e))
  | .im d, .fr es => .nx ((ρ.set i (.im d)).set j (.ow false es))
  | .fr ds, .im e => .nx ((ρ.set i (.ow false ds)).set j (.im e))
  | .fr ds, .fr es => .nx ((ρ.set i (.ow false ds)).set j (.ow false es))
  | _, _ => .bad
def parS (i j : Nat) (F G : Rho → Ou Rs) : Rho → So := fun ρ => bs (nrm (F ρ)) fun r ρ1 => bs (nrm (G ρ1)) fun s ρ2 => two i j r s ρ2
def slOf : Rs → Sl
  | .im d => .im d
  | .fr ds => .ow false ds
  | .sl _ => .un
theorem two_eq {i j : Nat} {r s : Rs} {ρ : Rho} (h : two i j r s ρ ≠ .bad) : pinned ρ i = false ∧ pinned ρ j = false ∧ i ≠ j ∧ two i j r s ρ = .nx ((ρ.set i (slOf r)).set j (slOf s)) := by
  unfold two at h ⊢
  split at h
  · exact (h rfl).elim
  · rename_i hh
    have h1 : ¬ pinned ρ i = true := fun z => hh (.inl z)
    have h2 : ¬ pinned ρ j = true := fun z => hh (.inr (.inl z))
    refine ⟨by simpa using h1, by simpa using h2, fun z => hh (.inr (.inr z)), ?_⟩
    rw [if_neg hh]
    cases r <;> cases s <;> first | rfl | exact (h rfl).elim
/-- a result is stored in a slot -/
theorem Stt.res {p : Pm} {R H : Hp} {O : As} {σ : Sg} {ρ : Rho} {i : Nat} {v : V} {r : Rs} (S : Stt p R H O σ ρ) (np : pinned ρ i = false) (hr : Rr p.K R H O σ ρ v r) (ns : ∀ j, r ≠ .sl j) : Stt p R H O (σ.set i (some v)) (ρ.set i (slOf r)) := by
  cases r with
  | im d => exact S.store np (.inl ⟨d, rfl, hr⟩)
  | fr ds => obtain ⟨a, vs, rfl, oa, ha, hd, un⟩ := hr; exact S.store np (.inr ⟨a, vs, ds, rfl, rfl, oa, ha, hd, un⟩)
  | sl j => exact (ns j rfl).elim
theorem two_ns {i j : Nat} {r s : Rs} {ρ : Rho} (h : two i j r s ρ ≠ .bad) : (∀ k, r ≠ .sl k) ∧ ∀ k, s ≠ .sl k := by
  unfold two at h
  split at h
  · exact (h rfl).elim
  · cases r <;> cases s <;> first | exact (h rfl).elim | exact ⟨fun _ z => (nomatch z), fun _ z => (nomatch z)⟩
theorem set_pin {ρ : Rho} {i j : Nat} {r : Rs} (h : pinned ρ j = false) : pinned (ρ.set i (slOf r)) j = false := by
  unfold pinned at h ⊢
  by_cases e : i = j
  · subst e
    rw [List.getElem?_set_self']
    cases q : ρ[i]? with
    | none => rfl
    | some z => cases r <;> rfl
  · rw [List.getElem?_set_ne e]; exact h
theorem sem_par {p : Pm} {EX : WX} {i j : Nat} {t u : TE} {F G : Rho → Ou Rs} (h : SemE p EX t F) (k : SemE p EX u G) : SemS p EX (tPar i j (tCons t (tCons u tNil))) (parS i j F G) := by
  intro R H O σ ρ E S g
  refine h.nrm.useS S g fun R1 H1 O1 ρ1 v r S1 T1 hv g1 => ?_
  have fin : ∀ {R2 H2 : Hp} {O2 : As} {ρ2 : Rho} {w : V} {s : Rs}, Stt p R2 H2 O2 σ ρ2 → Rr p.K R2 H2 O2 σ ρ2 v r → Rr p.K R2 H2 O2 σ ρ2 w s → (∀ a, (∃ ds, r = .fr ds) → (∃ ds, s = .fr ds) → v = .ref a → w ≠ .ref a) → GoodS p EX R2 H2 O2 E (two i j r s ρ2) → ∃ x y, [v, w] = [x, y] ∧ E.nx ((σ.set i (some x)).set j (some y)) H2 := by
    intro R2 H2 O2 ρ2 w s S2 h1 h2 ap g2
    have nb : two i j r s ρ2 ≠ .bad := fun z => by rw [z] at g2; exact g2
    obtain ⟨p1, p2, ne, e⟩ := two_eq nb
    obtain ⟨n1, n2⟩ := two_ns nb
    rw [e] at g2
    have S3 := S2.res p1 h1 n1
    have h3 : Rr p.K R2 H2 O2 (σ.set i (some v)) (ρ2.set i (slOf r)) w s := by
      cases s with
      | im d => exact h2
      | sl k => exact (n2 k rfl).elim
      | fr ds =>
        obtain ⟨a, vs, rfl, oa, ha, hd, un⟩ := h2
        refine ⟨a, vs, rfl, oa, ha, hd, fun m b es q q2 => ?_⟩
        rcases set_get q with ⟨rfl, z⟩ | ⟨n, z⟩
        · cases r with
          | im d => cases z
          | sl k => exact (n1 k rfl).elim
          | fr es' =>
            have hi : i < σ.length := by
              have := (List.getElem?_eq_some_iff.mp q).1
              rw [List.length_set] at this; rw [← S2.len]; exact this
            rw [List.getElem?_set_self hi] at q2
            have q3 : v = .ref a := Option.some.inj (Option.some.inj q2)
            exact ap a ⟨_, rfl⟩ ⟨_, rfl⟩ q3 rfl
        · rw [List.getElem?_set_ne n] at q2; exact un m b es z q2
    exact ⟨v, w, rfl, g2 _ R2 H2 O2 (S3.res (set_pin p2) h3 n2) .refl⟩
  cases r with
  | sl m =>
    refine k.nrm.useS S1 g1 fun R2 H2 O2 ρ2 w s S2 T2 hw g2 => ?_
    have nb : two i j (.sl m) s ρ2 ≠ .bad := fun z => by rw [z] at g2; exact g2
    exact ((two_ns nb).1 m rfl).elim
  | im d => exact k.nrm.useS S1 g1 fun R2 H2 O2 ρ2 w s S2 T2 hw g2 => fin S2 (T2.dp hv) hw (fun a z => by obtain ⟨ds, z⟩ := z; cases z) g2
  | fr ds =>
    obtain ⟨a, vs, rfl, oa, ha, hd, un⟩ := hv
    have Sl1 := S1.less un
    have na := S1.dis a oa
    refine k.nrm R1 H1 _ σ ρ1 _ Sl1 ?_
    show Good p EX (Rr p.K) R1 H1 (fun b => O1 b ∧ b ≠ a) σ _ (nrm (G ρ1))
    have g1 : GoodS p EX R1 H1 O1 E (bs (nrm (G ρ1)) fun s ρ2 => two i j (.fr ds) s ρ2) := g1
    cases e : nrm (G ρ1) with
    | bad => rw [e] at g1; exact g1.elim
    | ex tg d ρ2 =>
      rw [e] at g1
      intro dx x R2 H2 O2 S2 T2 fx hx no hd2
      obtain ⟨S3, T3, _⟩ := S2.back (vs := []) T2 ha na (fun z => z.2 rfl) (fun w z => by cases z) (fun b z => z.1) oa
      exact g1 dx x σ R2 H2 _ S3 T3 fx hx (fun z => z.elim no fun z => by subst z; rw [fx] at ha; cases ha) hd2
    | ok s ρ2 =>
      rw [e] at g1
      intro w R2 H2 O2 S2 T2 hw
      obtain ⟨S3, T3, h3, r3, o3⟩ := S2.back (vs := []) T2 ha na (fun z => z.2 rfl) (fun w z => by cases z) (fun b z => z.1) oa
      have un2 : ∀ (m : Nat) b es, ρ2[m]? = some (.ow b es) → σ[m]? ≠ some (some (.ref a)) := fun m b es q q2 => by
        obtain ⟨c, ws, y1, y2, _⟩ := S2.ow m b es q
        rw [y1] at q2; cases q2; exact o3 y2
      refine fin S3 ⟨a, vs, rfl, .inr rfl, h3, T2.dps hd, un2⟩ ?_ (fun c _ hs z1 z2 => ?_) (GoodS.tr T3 g1)
      · cases s with
        | im d => exact hw
        | sl m => exact hw
        | fr es =>
          obtain ⟨c, ws, rfl, oc, hc, hd2, un3⟩ := hw
          exact ⟨c, ws, rfl, .inl oc, hc, hd2, un3⟩
      · obtain ⟨es, rfl⟩ := hs
        obtain ⟨c', ws, e1, oc, _⟩ := hw
        cases z1
        rw [e1] at z2; cases z2
        exact o3 oc
end VL

namespace VL
open PySem PySem.Spec PyProof.Rows L2
/-! ### a law's end, where no repr is under way -/
theorem cx_false {P : Program} {w : World} {o : List Env} {H : Hp} {s : Shared} {e : Value} {s' : Shared} (h : L2.CX P w o H s (fun _ _ _ => False) e s') : False := by
  obtain ⟨_, _, _, _, _, _, _, _, _, _, _, _, z⟩ := h
  exact z.elim
theorem law_go {P : Program} {w : World} {K : PySem.W.Frag} {mg mb : Str → Option Value} {k : Nat} {fa a : Addr} {fd : FuncData} {x : Str} {sp : Sp} {s : Shared} {vs : List Value} {ns : List Int}
    (KX : K.In s.heap) (nsG : s.heap.Ns mainGlobals mg) (nsB : s.heap.Ns builtinsNs mb) (isB : ∀ x : Str, x ≠ "__name__" → mb x = bootBuiltins x) (lim : s.heap.NoLimit) (gens : s.gens = #[])
    (oa : s.heap.get? a = some { cls := .type "list", data := .seq vs.toArray }) (hi : IntsAre vs ns) (hl : ns.length ≤ sizeLine) (hr : Room k callerA) (F : ∀ base : Heap, K.In base → base.Ns mainGlobals mg → FnG P w K mg base k fa fd [x] sp)
    (bind : ∀ (s : Shared) (u : Value), BindsTo s fd ⟨[u], []⟩ [(x, u)]) (hsp : ∀ H : Hp, SqL K H a (ns.map V.int) → sp [.ref a] H (fun v _ => v = .bl true) fun _ _ _ => False) :
    codeAny (model P w) callerA (.call (.ref fa) ⟨[.ref a], []⟩) (fun r s' => r = .ok (.ret (.bool true)) ∧ OldK s.heap s'.heap ∧ s'.os = s.os ∧ AllBare s'.gens) s := by
  have rv := vals_ints hi
  have lv := hi.length
  let u : HO := .frz { cls := .type "list", data := .seq vs.toArray } (.lst (ns.map V.int))
  let H : Hp := fun b => if b = a ∧ K.lookup a = none then some u else none
  have only : ∀ b o, H b = some o → b = a ∧ K.lookup a = none ∧ o = u := fun b o e => by
    by_cases hc : b = a ∧ K.lookup a = none
    · have e' : some u = some o := (if_pos hc).symm.trans e
      exact ⟨hc.1, hc.2, (Option.some.inj e').symm⟩
    · have e' : none = some o := (if_neg hc).symm.trans e
      cases e'
  have sq : SqL K H a (ns.map V.int) := by
    cases q : K.lookup a with
    | none => exact .inl (.inr ⟨_, if_pos ⟨rfl, q⟩⟩)
    | some o =>
      have e := KX a o q
      rw [oa] at e
      cases e
      exact .inr ⟨_, vs.toArray, _, q, rfl, rfl, rfl, by rw [List.size_toArray, lv]; exact hl, by simpa using rv⟩
  have hok : HOk P w H s.heap := fun b o e => by
    obtain ⟨rfl, _, rfl⟩ := only b o e
    exact ⟨oa, by rw [List.length_map]; exact hl, vs, _, rv, oa⟩
  have dict : ∀ {b : Addr} {o : Obj} {es : Array DictEntry} {ep : Nat}, s.heap.get? b = some o → o.data = .dict es ep → H b = none := fun {b o es ep} e d => by
    cases q : H b with
    | none => rfl
    | some y =>
      obtain ⟨rfl, _⟩ := only b y q
      rw [oa] at e
      cases e
      have d' : Data.seq vs.toArray _ = Data.dict es ep := d
      cases d'
  have kns : ∀ {b : Addr} {m : Str → Option Value}, s.heap.Ns b m → (hidT s.heap H).Ns b m := fun {b m} ⟨o, es, ep, e, d, r⟩ => ⟨o, es, ep, hidT_get e (dict e d), d, r⟩
  have kK : K.In (hidT s.heap H) := fun b o e => hidT_get (KX b o e) (by
    cases q : H b with
    | none => rfl
    | some y => obtain ⟨rfl, n, _⟩ := only b y q; rw [n] at e; cases e)
  have M : Mod K mg (hidT s.heap H) := ⟨kK, kns nsG, ⟨mb, kns nsB, isB⟩, let ⟨mc, h1, h2⟩ := lim; ⟨mc, kns h1, h2⟩⟩
  have e0 : Env0 P w K mg (hidT s.heap H) callerA [] s H := ⟨rfl, M, fun b o e => of_hidT e, Nat.le_of_eq (hidT_size _ _), trivial, fun b hb => (nomatch hb), hok, .of_eq gens⟩
  refine codeAny_mono ((F _ kK (kns nsG)).go callerA [] s H ⟨[.ref a], []⟩ [.ref a] [.ref a] _ _ rfl hr e0 (bind s (.ref a)) (.cons rfl .nil) (hsp H sq)) fun r s' h => ?_
  cases r with
  | error e => exact (cx_false h).elim
  | ok fl => cases fl with
    | next => exact False.elim h
    | brk => exact False.elim h
    | cont => exact False.elim h
    | ret y =>
      obtain ⟨v, H', os, bare, un, hok', r', q⟩ := h
      have q : v = .bl true := q
      subst q
      obtain rfl : y = Value.bool true := r'
      refine ⟨rfl, OldK.of_keep fun b o e => ?_, os, bare⟩
      cases q : H b with
      | none => exact un.keep b o e q (fun z => (nomatch z)) (fun z => (nomatch z))
      | some y =>
        obtain ⟨rfl, _, rfl⟩ := only b y q
        obtain ⟨e2, _⟩ := hok' b _ (un.frzs b _ _ q)
        rw [oa] at e
        rw [e2]; exact e
theorem walk_g {l : PySem.W.OpenLaw} {n k : Nat} {q : Program} {loose : List Str} {XP : (Str → Option Value) → Heap → Prop} {YP : World → Heap → Prop} {d : DefRec} {K : Params → PySem.W.Frag} {x : Str}
    (hn : l.most = some n) (hn2 : n ≤ sizeLine) (hdf : d.params.defaults = []) (hr : Room k callerA) (hY : ∀ (w : World) (h : Heap), YP w h → (K w.params).In h)
    (F : ∀ (w : World) (mg : Str → Option Value) (fa : Addr) (h : Heap), (K w.params).In h → h.Ns mainGlobals mg → mg d.name = some (.ref fa) →
      ∃ fd : FuncData, (∀ (s : Shared) (u : Value), BindsTo s fd ⟨[u], []⟩ [(x, u)]) ∧ ∃ sp : Sp, (∀ (H : Hp) (a : Addr) (ns : List Int), ns.length ≤ n → SqL (K w.params) H a (ns.map V.int) → sp [.ref a] H (fun v _ => v = .bl true) fun _ _ _ => False) ∧
        ∀ base : Heap, (K w.params).In base → base.Ns mainGlobals mg → FnG l.prog w (K w.params) mg base k fa fd [x] sp) :
    PySem.W.WalkO q loose XP YP l.row.toRowW d [] (fun f vs => PySem.call f vs) := by
  refine Att.attach_call hn hdf fun w s₀ s₁ mg mb fa o pm cd doc a vs ns G Y ho hd hcd hmg hobj hints hlen hg => ?_
  have KX := hY w _ Y
  obtain ⟨fd, hb, sp, hs, hF⟩ := F w mg fa _ KX G.T.g hmg
  exact law_go KX G.T.g G.T.b G.T.builtins G.T.nolimit hg hobj hints (Nat.le_trans hlen hn2) hr hF hb fun H hS => hs H a ns hlen hS
/-- the law's promise from what it does to data -/
theorem law_sp {K : PySem.W.Frag} {xc : Nat → Addr} {m : List Sl → Fo} {H : Hp} {a : Addr} {ns : List Int} {as : List Sl} (h : m [.im (.list (ns.map PyData.int))] = .rt (.im (.bool true)) as) (hs : SqL K H a (ns.map V.int)) :
    spF 1 K xc m [.ref a] H (fun v _ => v = .bl true) fun _ _ _ => False := by
  have each : ∀ ns : List Int, DpAll K H (ns.map V.int) (ns.map PyData.int) := fun ns => by
    induction ns with
    | nil => exact .nil
    | cons n r ih => exact .cons (.int n) ih
  refine ⟨rfl, H, fun _ => False, [.im (.list (ns.map PyData.int))], stt_args (fun _ _ e => e) (.cons (.lst hs (each ns)) .nil), ?_⟩
  rw [h]
  intro v R' H' O' _ _ hr
  have hr : Dp K R' v (.bool true) := hr
  cases hr
  rfl
end VL

namespace VL
open PySem PySem.Spec PyProof.Rows L2
/-! ### where nothing is let out -/
theorem pass_no {X : Cx} (σ : Sg) : PassesAt (L2.CX X.prog X.w) X σ (atE EX0 σ) := fun _ _ _ _ _ _ h => (cx_false h).elim
/-! ### enumerate -/
def numD : Nat → List D → List D
  | _, [] => []
  | i, d :: ds => .tuple [.int (i : Nat), d] :: numD (i + 1) ds
theorem numD_len : ∀ (ds : List D) (i : Nat), (numD i ds).length = ds.length
  | [], _ => rfl
  | _ :: ds, i => by unfold numD; rw [List.length_cons, List.length_cons, numD_len ds]
theorem numD_get : ∀ (ds : List D) (i j : Nat) (z : D), (numD i ds)[j]? = some z → ∃ d, ds[j]? = some d ∧ z = .tuple [.int ((i + j : Nat) : Int), d]
  | [], _, _, _, e => by simp [numD] at e
  | d :: ds, i, 0, z, e => by
    unfold numD at e
    simp at e
    exact ⟨d, rfl, by rw [← e]; rfl⟩
  | d :: ds, i, j + 1, z, e => by
    unfold numD at e
    obtain ⟨c, e1, e2⟩ := numD_get ds (i + 1) j z (by simpa using e)
    exact ⟨c, by simpa using e1, by rw [e2, show i + 1 + j = i + (j + 1) by omega]⟩
theorem it_enum {p : Pm} {R : Hp} {a : Addr} {vs : List V} {ds : List D} (hs : SqL p.K R a vs) (hd : DpAll p.K R vs ds) : ItOk p R (Ite p.K a) (numD 0 ds) := by
  intro R1 H1 m1 m2
  have h1 : SqL p.K H1 a vs := sqL_mono m2 (sqL_mono m1 hs)
  refine ⟨fun i z e => ?_, fun i e => ⟨vs, h1, dpAll_none hd (by rw [numD_len] at e; exact e)⟩⟩
  obtain ⟨d, e1, rfl⟩ := numD_get ds 0 i z e
  obtain ⟨v, ev, hv⟩ := dpAll_get hd e1
  refine ⟨⟨vs, v, h1, ev⟩, fun x H2 hy => ?_⟩
  obtain ⟨T, y, rfl, hT, rfl, q⟩ := hy
  have := q vs h1
  rw [ev] at this; cases this
  have gr := Grow.tup (R := R1) (vs := [V.int (i : Nat), v]) m2 hT
  refine ⟨_, gr, .tup (.inl (.inl upd_same)) (.cons ?_ (.cons (dp_mono gr.r d v (dp_mono m1 d v hv)) .nil))⟩
  rw [Nat.zero_add]
  exact .int _
def enumO (d : D) (ρ : Rho) : Ou (List D) := match d with
  | .list ds => .ok (numD 0 ds) ρ
  | _ => .bad
def enumI (F : Rho → Ou Rs) : Rho → Ou (List D) := fun ρ => bd (bd (frz (F ρ)) dat) enumO
theorem sem_enum {p : Pm} {EX : WX} {t : TE} {F : Rho → Ou Rs} (h : SemE p EX t F) : SemI p EX (iEnum p.K (tCons t tNil)) (enumI F) := by
  refine Sem.bind (k := fun v σ H R => ∃ a xs, [v] = [V.ref a] ∧ SqL p.K H a xs ∧ R (Ite p.K a) H) (G := enumO) h.op.dat fun R H O σ ρ v a Q S hv g => ?_
  unfold enumO at g
  split at g
  · cases hv with
    | lst h1 d1 => exact ⟨_, _, rfl, sqL_mono S.sub h1, g _ R H O S .refl (it_enum h1 d1)⟩
  · exact g.elim
/-! ### max, min of a list -/
def intsD : List D → Option (List Int)
  | [] => some []
  | .int i :: ds => (intsD ds).map (i :: ·)
  | _ => none
theorem ints_v {K : PySem.W.Frag} {R : Hp} : ∀ {vs : List V} {ds : List D} {ns : List Int}, DpAll K R vs ds → intsD ds = some ns → vs = ns.map V.int
  | _, _, _, .nil, e => by cases Option.some.inj e; rfl
  | v :: vs, d :: ds, ns, .cons h t, e => by
    cases d with
    | int b =>
      obtain ⟨cs, e1, rfl⟩ := Option.map_eq_some_iff.mp (show (intsD ds).map (b :: ·) = some ns from e)
      cases h
      rw [ints_v t e1]; rfl
    | none => cases e
    | bool _ => cases e
    | str _ => cases e
    | list _ => cases e
    | tuple _ => cases e
    | dict _ => cases e
def maxLD (ds : List D) : Option Rs := match ds with
  | [.list xs] => (intsD xs).bind fun ns => ns.max?.map fun m => .im (.int m)
  | _ => none
def minLD (ds : List D) : Option Rs := match ds with
  | [.list xs] => (intsD xs).bind fun ns => ns.min?.map fun m => .im (.int m)
  | _ => none
theorem cv_maxL {K : PySem.W.Frag} : CallV K (rMax K) maxLD := by
  intro R H vs ds z Q m hv q o
  unfold maxLD at q
  split at q
  · obtain ⟨ns, e1, e2⟩ := Option.bind_eq_some_iff.mp q
    obtain ⟨k, e3, rfl⟩ := Option.map_eq_some_iff.mp e2
    obtain ⟨v, rfl, h⟩ := vrs1 hv
    obtain ⟨a, ws, rfl, h1, d1⟩ := h
    obtain ⟨hm, hle⟩ := List.max?_eq_some_iff.mp e3
    refine ⟨a, ns, rfl, by rw [← ints_v d1 e1]; exact h1, List.length_pos_of_mem hm, fun j hj hl => ?_⟩
    have : j = k := Int.le_antisymm (hle j hj) (hl k hm)
    subst this
    exact o _ R H (.refl m) (.int _)
  · cases q
/-! ### a target of more names, of a tuple or a list -/
def gU (K : PySem.W.Frag) (n : Nat) (t : TGs) : TG := fun v σ H Q => gTup K n t v σ H Q ∨ gUnl K n t v σ H Q
theorem pg_u {X : Cx} {pos : Pos} {es : List Expr} {k : Nat} {t : TGs} {n : Nat} (c : X.calm = true) (h : PGs X es t) (l : (assignEach es X.env).length = n) (f : List.findIdx? (fun x => x.fst) (assignEach es X.env) = none) : PG X (.Tuple es k pos) (gU X.K n t) :=
  ⟨fun pins s σ H v u Q I r q => q.elim ((pg_tup (pos := pos) (k := k) c h l f).run pins s σ H v u Q I r) ((pg_unl (pos := pos) (k := k) c h l f).run pins s σ H v u Q I r)⟩
def tupU (n : Nat) (U : Tgs) : Tg := fun d ρ => match d with
  | .tuple ds => if ds.length = n then U ds ρ else none
  | .list ds => if ds.length = n then U ds ρ else none
  | _ => none
theorem sem_gu {p : Pm} {ks : List Nat} {n : Nat} {gs : TGs} {U : Tgs} (k : SemGs p ks gs U) : SemG p ks (gU p.K n gs) (tupU n U) := by
  intro R H O σ ρ ρ' v d Q S hv e q
  unfold tupU at e
  split at e
  · split at e
    · rename_i ds hl
      cases hv with
      | tup h1 d1 => exact .inl ⟨_, _, rfl, sqT_mono S.sub h1, (dpAll_len d1).trans hl, k R H O σ ρ ρ' _ ds Q S d1 e q⟩
    · cases e
  · split at e
    · rename_i ds hl
      cases hv with
      | lst h1 d1 => exact .inr ⟨_, _, rfl, sqL_mono S.sub h1, (dpAll_len d1).trans hl, k R H O σ ρ ρ' _ ds Q S d1 e q⟩
    · cases e
  · cases e
/-! ### two texts -/
def neSD (d e : D) : Option Rs := match d, e with
  | .str x, .str y => some (.im (.bool (!decide (x = y))))
  | _, _ => none
def eqSD (d e : D) : Option Rs := match d, e with
  | .str x, .str y => some (.im (.bool (decide (x = y))))
  | _, _ => none
theorem ov_neS {K : PySem.W.Frag} : OpV K rNe neSD := by
  intro R H v u d e z Q m hv hu q o
  unfold neSD at q
  split at q
  · cases Option.some.inj q
    cases hv; cases hu
    rename_i x y
    refine ⟨rfl, ?_⟩
    rw [show decide (V.str x = V.str y) = decide (x = y) from decide_eq_decide.mpr ⟨fun h => by cases h; rfl, fun h => by rw [h]⟩]
    exact o _ R H (.refl m) (.bl _)
  · cases q
theorem ov_eqS {K : PySem.W.Frag} : OpV K rEq eqSD := by
  intro R H v u d e z Q m hv hu q o
  unfold eqSD at q
  split at q
  · cases Option.some.inj q
    cases hv; cases hu
    rename_i x y
    refine ⟨rfl, ?_⟩
    rw [show decide (V.str x = V.str y) = decide (x = y) from decide_eq_decide.mpr ⟨fun h => by cases h; rfl, fun h => by rw [h]⟩]
    exact o _ R H (.refl m) (.bl _)
  · cases q
end VL

namespace VL
open PySem PySem.Spec PyProof.Rows L2 PySem.W
/-! ### enumerate of a tuple: its making, its turns -/
theorem enum1_new {v : Value} {oi : Obj} {HH : Heap → Prop} (B : Begins v oi HH) :
    Meets (Builtin.«enumerate.__new__» ⟨[.type "enumerate", v], []⟩) (fun _ R s => HH s.heap ∧ R (.ok (.ret (.ref (s.heap.push oi).objs.size))) { s with heap := (s.heap.push oi).push { cls := .type "enumerate", data := .fields #[.none, .bool false, .ref s.heap.objs.size, rawInt 0, .none, .none] } }) :=
  .of_wp fun prog w A R s hh => by
    obtain ⟨hp, gs, dr, tn, ost⟩ := s
    obtain ⟨hb, hr⟩ := hh
    have hsub := sub_enumerate
    have qi : ∀ {A' : Around} {E : Value → Shared → Prop} {Q : Value → Shared → Prop}, Q (.ref hp.objs.size) ⟨hp.push oi, gs, dr, tn, ost⟩ → wpAny (model prog w) A' (pyIter v) Q E ⟨hp, gs, dr, tn, ost⟩ := fun z => B.iter prog w _ _ ⟨hp, gs, dr, tn, ost⟩ _ hb z
    wp_walk using qi
    first
      | exact ⟨_, rfl, hr⟩
      | (refine wpAny_stack_any fun st => wpAny_pure ?_
         split
         · rename_i c _ _ _ _ _
           cases (c == Value.type "enumerate")
           · wp_walk using qi
             exact ⟨_, rfl, hr⟩
           · wp_walk using qi
             exact ⟨_, rfl, hr⟩
         · wp_walk using qi
           exact ⟨_, rfl, hr⟩)
theorem enum1_begins {prog : Program} {w : World} {A : Around} {E : Value → Shared → Prop} {s : Shared} {v : Value} {oi : Obj} {HH : Heap → Prop} {Q : Value → Shared → Prop} (B : Begins v oi HH) (hb : HH s.heap)
    (h : ∀ h', IsEnum h' (s.heap.objs.size + 1) s.heap.objs.size 0 .none → h'.get? s.heap.objs.size = some oi → (∀ b u, s.heap.get? b = some u → h'.get? b = some u) → Q (.ref (s.heap.objs.size + 1)) { s with heap := h' }) :
    wpAny (model prog w) A (call (.type "enumerate") [v]) Q E s := by
  refine callType_new F.called_enumerate (by decide) (F.typeCall_enumerate_1 _) (F.newCall_enumerate_1 _) (fun ob => F.args_object_init_2 ob _) F.entry_enumerate_new (enum1_new B) ⟨hb, ?_⟩
  have zz : (s.heap.push oi).objs.size = s.heap.objs.size + 1 := Heap.size_push ..
  show _ ∧ _
  rw [zz]
  have ie : IsEnum ((s.heap.push oi).push { cls := .type "enumerate", data := .fields #[.none, .bool false, .ref s.heap.objs.size, rawInt 0, .none, .none] }) (s.heap.objs.size + 1) s.heap.objs.size 0 .none := by
    have := Heap.get?_push_size (s.heap.push oi) (o := { cls := .type "enumerate", data := .fields #[.none, .bool false, .ref s.heap.objs.size, rawInt 0, .none, .none] }) rfl
    rw [zz] at this
    exact this
  exact ⟨⟨_, ie, rfl⟩, h _ ie (Heap.get?_push_of_some _ (Heap.get?_push_size _ B.free)) fun b u z => Heap.get?_push_of_some _ (Heap.get?_push_of_some _ z)⟩
/-- the tuple at a as it stands at each turn, each item in a new pair -/
def Iet (K : PySem.W.Frag) (a : Addr) : It :=
  ⟨fun i H => ∃ (xs : List V) (x : V), SqT K H a xs ∧ xs[i]? = some x, fun i H v H' => ∃ T x, v = .ref T ∧ H T = none ∧ H' = upd H T (.tup [.int (i : Nat), x]) ∧ ∀ xs, SqT K H a xs → xs[i]? = some x, fun i H => ∃ xs : List V, SqT K H a xs ∧ xs.length ≤ i⟩
theorem turn_enumT {P : Program} {w : World} {K : PySem.W.Frag} {elts : List Expr} {kk : Nat} {tpos : Pos} (a e it : Addr) :
    Turn P w K (.Tuple elts kk tpos) (Iet K a) [e, it] e (fun i h => (∃ old, IsEnum h e it ((i : Nat) : Int) old) ∧ h.IsTupleIter it a i ∧ e ≠ it ∧ a ≠ it ∧ e ≠ a) where
  mem := by simp
  obj := fun i h st b hb => by
    obtain ⟨⟨old, he⟩, ⟨o, ho, hc, hd⟩, _⟩ := st
    rcases (show b = e ∨ b = it by simpa using hb) with z | z
    · rw [z]; exact ⟨_, he, fun v q => nomatch q⟩
    · rw [z]; exact ⟨o, ho, fun v q => by rw [hd] at q; cases q⟩
  keep := fun i h h' st k => let ⟨⟨old, he⟩, hi, hne⟩ := st; ⟨⟨old, k e (by simp) _ he⟩, hi.at fun o q => k it (by simp) o q, hne⟩
  item := by
    intro X hP hw hK hc i pins s σ H E I hf st hg
    subst hP hw hK
    obtain ⟨⟨old, he⟩, hit, hne, hai, hea⟩ := st
    obtain ⟨xs, x, hq, hx⟩ := hg
    obtain ⟨its, rv, p, hz⟩ := I.tuple hq
    have p : s.heap.IsTuple a its.toArray := p
    obtain ⟨u, hu, ru⟩ := rv.get hx
    have lte : e < s.heap.objs.size := Heap.lt_size he
    have lti : it < s.heap.objs.size := by obtain ⟨_, q, _⟩ := hit; exact Heap.lt_size q
    have hlt : i < its.toArray.size := by
      rw [List.size_toArray]
      exact (List.getElem?_eq_some_iff.mp hu).1
    have D := Draws.tuple (prog := X.prog) (w := X.w) (A := X.A.in1) (I.ok.hd hc) it a hai its.toArray
    refine wpAny_pyNext_enum_itemD D he ⟨hit, p⟩ hlt hne (by simp; exact ⟨hne, hea⟩) fun x' h' tk hx' ho hst hT hsz hk => ?_
    have hxu : x' = u := by
      have z : its.toArray[i]? = some x' := hx'
      rw [List.getElem?_toArray, hu] at z
      exact (Option.some.inj z).symm
    subst hxu
    refine ⟨_, rfl, wpAny_letOwnedTupleGo_enum (s := { s with heap := h', toks := tk + 1 }) ho fun h'' he' sb => ?_⟩
    have hT2 : h''.get? s.heap.objs.size = some { cls := .type "tuple", data := .seq #[.int i tk, x'] } := (sb.2 _ (Nat.ne_of_gt lte)).trans hT
    have new : ObjOk X.prog X.w (upd H s.heap.objs.size (.tup [.int (i : Nat), x])) h'' s.heap.objs.size (.tup [.int (i : Nat), x]) :=
      ⟨by show 2 ≤ sizeLine; rw [sizeLine_eq]; decide, [.int i tk, x'], .cons ⟨_, rfl⟩ (.cons ru .nil), ⟨_, hT2, rfl, _, rfl⟩⟩
    have I1 : Inv X pins σ (upd H s.heap.objs.size (.tup [.int (i : Nat), x])) { s with heap := h'', toks := tk + 1 } :=
      I.turnedNew (ch := [e, it]) (fun b ob hb q => (sb.2 b (fun z => hb (by simp [z]))).trans (hk b ob (fun z => hb (by simp [z])) (fun z => hb (by simp [z])) q)) hf (Nat.le_refl _) new
    refine ⟨.ref s.heap.objs.size, _, I1, rfl, ⟨_, x, rfl, I.hok.fresh (Nat.le_refl _), rfl, fun ys hy => by rw [I.tuple_inj hy hq]; exact hx⟩, ⟨⟨x', ?_⟩, hst.1.at fun o q => (sb.2 it (Ne.symm hne)).trans q, hne, hai, hea⟩, fun b hb => ?_⟩
    · rw [show ((i + 1 : Nat) : Int) = (i : Int) + 1 by omega]
      exact he'
    · have hb' : b < s.heap.objs.size := by
        rcases (show b = e ∨ b = it by simpa using hb) with z | z
        · rw [z]; exact lte
        · rw [z]; exact lti
      rw [upd_ne (Nat.ne_of_lt hb')]
      exact (hf b hb).1
  done := by
    intro X hP hw hK hc i pins s σ H E I hf st hg
    subst hP hw hK
    obtain ⟨⟨old, he⟩, hit, hne, hai, hea⟩ := st
    obtain ⟨xs, hq, hx⟩ := hg
    obtain ⟨its, rv, p, hz⟩ := I.tuple hq
    have p : s.heap.IsTuple a its.toArray := p
    obtain ⟨f0, f1, f2, f3, f4, f5⟩ := hf it (by simp)
    have hl := rv.length
    have D : Draws X.prog X.w X.A.in1 it [it, a] i (fun _ _ => False) (fun j h => j = i ∧ h.IsTupleIter it a i ∧ h.IsTuple a its.toArray) :=
      { live := fun _ _ st => let ⟨o, ho, _⟩ := st.2.1; ⟨o, ho⟩
        frame := fun _ _ _ st hk => ⟨st.1, st.2.1.at fun o z => hk it (by simp) o z, st.2.2.at fun o z => hk a (by simp) o z⟩
        item := fun j s Q E hj st _ => by have := st.1; omega
        done := fun s Q E st hE => wpAny_nextOf_tuple_end (I.ok.hd hc) st.2.1 st.2.2 (by simp; omega) hE }
    exact wpAny_pyNext_enum_endD D he ⟨rfl, hit, p⟩ fun h' eb => ⟨rfl, I.turned (t' := s.toks) (fun b o hb z => eb b o hb z) f0 f1 f3 f4 f5⟩
  self := fun A i s Q E st h => let ⟨⟨_, he⟩, _⟩ := st; wpAny_pyIter_enum he h
def iEnumT (K : PySem.W.Frag) (ta : TA) : TI := fun σ H R => ta σ H fun vs H1 => ∃ a xs, vs = [.ref a] ∧ SqT K H1 a xs ∧ R (Iet K a) H1
theorem pi_enumT {X : Cx} {e : Expr} {ta : TA} {p pos tpos : Pos} {elts : List Expr} {kk : Nat} (hg : Gl X "enumerate") (hm : X.mg "enumerate" = none) (ha : PA X [e] ta) (hs : starEach [e] X.env = [(false, eval e X.env)]) :
    PI X (.Tuple elts kk tpos) (.Call (.Name "enumerate" p) [e] [] pos) (iEnumT X.K ta) := by
  refine ⟨fun pins s σ H R I h => ?_⟩
  refine Call_ (ld_blt I hg hm boot_enumerate (PyProof.Rows.callWith_type1 (thn (ha.run pos pins s σ H _ I h) fun us s1 ⟨vs, H1, I1, r1, a, xs, ex, hq, q⟩ => ?_) hs rfl))
  subst ex
  cases r1 with
  | cons r rr =>
    cases rr
    cases r
    obtain ⟨its, rv, p', hz⟩ := I1.tuple hq
    have p' : s1.heap.IsTuple a its.toArray := p'
    have la : a < s1.heap.objs.size := by obtain ⟨_, z, _⟩ := id p'; exact Heap.lt_size z
    refine enum1_begins (begins_tuple a its.toArray) p' fun h' he hit hk => wpAny_pyIter_enum he ?_
    have I2 : Inv X pins σ H1 { s1 with heap := h' } := I1.kept (t' := s1.toks) hk
    refine ⟨s1.heap.objs.size + 1, [s1.heap.objs.size + 1, s1.heap.objs.size], _, _, H1, rfl, I2, turn_enumT a (s1.heap.objs.size + 1) s1.heap.objs.size, ⟨⟨.none, he⟩, ⟨_, hit, rfl, rfl⟩, Nat.succ_ne_self _, Nat.ne_of_lt la, Nat.ne_of_gt (Nat.lt_succ_of_lt la)⟩, fun b hb => ?_, q⟩
    have le : s1.heap.objs.size ≤ b := by
      rcases (show b = s1.heap.objs.size + 1 ∨ b = s1.heap.objs.size by simpa using hb) with z | z
      · rw [z]; exact Nat.le_succ _
      · rw [z]; exact Nat.le_refl _
    exact I1.fpOk le (I1.hok.fresh le)
/-- enumerate of a list or a tuple -/
def iEnumU (K : PySem.W.Frag) (ta : TA) : TI := fun σ H R => iEnum K ta σ H R ∨ iEnumT K ta σ H R
theorem pi_enumU {X : Cx} {e : Expr} {ta : TA} {p pos tpos : Pos} {elts : List Expr} {kk : Nat} (hg : Gl X "enumerate") (hm : X.mg "enumerate" = none) (ha : PA X [e] ta) (hs : starEach [e] X.env = [(false, eval e X.env)]) :
    PI X (.Tuple elts kk tpos) (.Call (.Name "enumerate" p) [e] [] pos) (iEnumU X.K ta) :=
  ⟨fun pins s σ H R I q => q.elim ((pi_enum hg hm ha hs).run pins s σ H R I) ((pi_enumT hg hm ha hs).run pins s σ H R I)⟩
theorem it_enumT {p : Pm} {R : Hp} {a : Addr} {vs : List V} {ds : List D} (hs : SqT p.K R a vs) (hd : DpAll p.K R vs ds) : ItOk p R (Iet p.K a) (numD 0 ds) := by
  intro R1 H1 m1 m2
  have h1 : SqT p.K H1 a vs := sqT_mono m2 (sqT_mono m1 hs)
  refine ⟨fun i z e => ?_, fun i e => ⟨vs, h1, dpAll_none hd (by rw [numD_len] at e; exact e)⟩⟩
  obtain ⟨d, e1, rfl⟩ := numD_get ds 0 i z e
  obtain ⟨v, ev, hv⟩ := dpAll_get hd e1
  refine ⟨⟨vs, v, h1, ev⟩, fun x H2 hy => ?_⟩
  obtain ⟨T, y, rfl, hT, rfl, q⟩ := hy
  have := q vs h1
  rw [ev] at this; cases this
  have gr := Grow.tup (R := R1) (vs := [V.int (i : Nat), v]) m2 hT
  refine ⟨_, gr, .tup (.inl (.inl upd_same)) (.cons ?_ (.cons (dp_mono gr.r d v (dp_mono m1 d v hv)) .nil))⟩
  rw [Nat.zero_add]
  exact .int _
def enumUO (d : D) (ρ : Rho) : Ou (List D) := match d with
  | .list ds => .ok (numD 0 ds) ρ
  | .tuple ds => .ok (numD 0 ds) ρ
  | _ => .bad
def enumUI (F : Rho → Ou Rs) : Rho → Ou (List D) := fun ρ => bd (bd (frz (F ρ)) dat) enumUO
theorem sem_enumU {p : Pm} {EX : WX} {t : TE} {F : Rho → Ou Rs} (h : SemE p EX t F) : SemI p EX (iEnumU p.K (tCons t tNil)) (enumUI F) := by
  intro R H O σ ρ Q S g
  have hd := h.op.dat R H O σ ρ
  have g : Good p EX _ R H O σ Q (bd (bd (frz (F ρ)) dat) enumUO) := g
  cases e : bd (frz (F ρ)) dat with
  | bad => rw [e] at g; exact g.elim
  | ex t' d ρ' =>
    rw [e] at g
    refine .inl (hd _ S ?_)
    show Good p EX _ R H O σ _ (bd (frz (F ρ)) dat)
    rw [e]
    exact g
  | ok d ρ' =>
    rw [e] at g
    have g : Good p EX _ R H O σ Q (enumUO d ρ') := g
    unfold enumUO at g
    split at g
    · refine .inl (hd _ S ?_)
      show Good p EX _ R H O σ _ (bd (frz (F ρ)) dat)
      rw [e]
      intro v R' H' O' S' T' hv
      cases hv with
      | lst h1 d1 => exact ⟨_, _, rfl, sqL_mono S'.sub h1, g _ R' H' O' S' T' (it_enum h1 d1)⟩
    · refine .inr (hd _ S ?_)
      show Good p EX _ R H O σ _ (bd (frz (F ρ)) dat)
      rw [e]
      intro v R' H' O' S' T' hv
      cases hv with
      | tup h1 d1 => exact ⟨_, _, rfl, sqT_mono S'.sub h1, g _ R' H' O' S' T' (it_enumT h1 d1)⟩
    · exact g.elim
end VL

namespace VL
open PySem PySem.Spec PyProof.Rows L2
/-! ### defs as values: given to a call, called by a local name, gone through by a for -/
def foV (n : Nat) (m : List Sl → Fo) (k : Nat) (ds : List D) (ρ : Rho) : Ou Rs := if ds.length + 1 = n then match m (.fv k :: ds.map .im) with
  | .rt (.im d) _ => .ok (.im d) ρ
  | .rt (.fr es) _ => .ok (.fr es) ρ
  | .ex tag d _ => .ex tag d ρ
  | _ => .bad else .bad
theorem call_v {p : Pm} {EX : WX} {n k : Nat} {m : List Sl → Fo} {R H : Hp} {O : As} {σ : Sg} {ρ : Rho} {vs : List V} {ds : List D} {Q : VK} (S : Stt p R H O σ ρ) (hv : DpAll p.K R vs ds) (g : Good p EX (Rr p.K) R H O σ Q (foV n m k ds ρ)) :
    spF n p.K p.xc m (.ref (p.xc (1000 + k)) :: vs) H Q (fun cls d G => EX cls d σ G) := by
  unfold foV at g
  split at g
  · rename_i hn
    have S0 := stt_args (xc := p.xc) S.sub hv
    have S1 : Stt (pmF p.K p.xc (.ref (p.xc (1000 + k)) :: vs)) R H (fun _ => False) ((V.ref (p.xc (1000 + k)) :: vs).map some) (.fv k :: ds.map .im) := by
      refine ⟨S.sub, fun c z => z.elim, fun c z => z.elim, by have := S0.len; simp at this ⊢; exact this, fun j d q => ?_, fun j c es q => ?_, fun j y w q hw => ?_, fun j l c c' es fs x q1 q2 _ _ => ?_, fun j tag d q => ?_⟩
      · cases j with
        | zero => cases q
        | succ j => exact S0.im j d q
      · cases j with
        | zero => cases q
        | succ j => obtain ⟨_, _, _, z, _⟩ := S0.ow j c es q; exact z.elim
      · cases j with
        | zero => cases q; cases hw; rfl
        | succ j =>
          have q : (ds.map Sl.im)[j]? = some y := q
          rw [List.getElem?_map] at q
          cases qq : ds[j]? with
          | none => rw [qq] at q; cases q
          | some d' => rw [qq] at q; cases Option.some.inj q; cases hw
      · cases j with
        | zero => cases q1
        | succ j => obtain ⟨_, _, _, z, _⟩ := S0.ow j c es q1; exact z.elim
      · cases j with
        | zero => cases q
        | succ j => obtain ⟨_, _, _, _, z, _⟩ := S0.xn j tag d q; cases z
    refine ⟨by rw [List.length_cons, dpAll_len hv]; exact hn, R, fun _ => False, _, S1, ?_⟩
    have back : ∀ {R' H' : Hp} {O' : As} {as : List Sl}, Stt (pmF p.K p.xc (.ref (p.xc (1000 + k)) :: vs)) R' H' O' ((V.ref (p.xc (1000 + k)) :: vs).map some) as → Tr R H (fun _ => False) R' H' O' → Stt p R' H' (fun b => O b ∨ O' b) σ ρ ∧ Tr R H O R' H' (fun b => O b ∨ O' b) := fun {R' H' O' as} S' T' =>
      ⟨S.behind (fun _ z => z.elim) T' S'.dis S'.al S'.sub (fun _ z => z.elim) fun _ _ _ _ _ _ z => z.elim, T'.more fun _ z => z.elim⟩
    cases e : m (.fv k :: ds.map .im) with
    | bad => rw [e] at g; exact g.elim
    | ex tag d as =>
      rw [e] at g
      intro dx v R' H' O' S' T' fx hx no hd
      obtain ⟨S2, T2⟩ := back S' T'
      exact g dx v R' H' _ S2 T2 fx hx (fun z => z.elim (fun z => S.al dx z fx) no) hd
    | rt r as =>
      rw [e] at g
      cases r with
      | sl i => exact g.elim
      | im d =>
        intro v R' H' O' S' T' hr
        obtain ⟨S2, T2⟩ := back S' T'
        exact g v R' H' _ S2 T2 hr
      | fr es =>
        intro v R' H' O' S' T' hr
        obtain ⟨S2, T2⟩ := back S' T'
        obtain ⟨a, ws, rfl, oa, ha, hd, _⟩ := hr
        refine g _ R' H' _ S2 T2 ⟨a, ws, rfl, .inr oa, ha, hd, fun i b es' e1 e2 => ?_⟩
        obtain ⟨c, ys, q1, q2, q3, _⟩ := S.ow i b es' e1
        rw [q1] at e2; cases e2
        rcases T'.o a oa with z | z
        · exact z
        · rw [q3] at z; cases z
  · exact g.elim
/-- f(g, ..) where g is a def's name -/
def clV (n : Nat) (m : List Sl → Fo) (k : Nat) (F : Rho → Ou (List D)) : Rho → Ou Rs := fun ρ => bd (F ρ) (foV n m k)
theorem sem_clV {p : Pm} {EX : WX} {n k : Nat} {a : Addr} {m : List Sl → Fo} {t : TA} {F : Rho → Ou (List D)} (hk : p.xc (1000 + k) = a) (h : SemAD p EX t F) : SemE p EX (tCl (spF n p.K p.xc m) (atE EX) (tCons (tC (.ref a)) t)) (clV n m k F) := by
  subst hk
  intro R H O σ ρ Q S g
  exact h.use S g fun R' H' O' ρ' us ds S' T' hu g' => call_v S' hu g'
/-- f(x, ..) where the local x holds a def -/
def clVv (n : Nat) (m : List Sl → Fo) (i : Nat) (F : Rho → Ou (List D)) : Rho → Ou Rs := fun ρ => match ρ[i]? with
  | some (.fv k) => bd (F ρ) (foV n m k)
  | _ => .bad
theorem sem_clVv {p : Pm} {EX : WX} {n i : Nat} {m : List Sl → Fo} {t : TA} {F : Rho → Ou (List D)} (h : SemAD p EX t F) : SemE p EX (tCl (spF n p.K p.xc m) (atE EX) (tCons (tVar i) t)) (clVv n m i F) := by
  intro R H O σ ρ Q S g
  unfold clVv at g
  split at g
  · rename_i k e
    exact ⟨_, S.pn i _ _ e rfl, h.use S g fun R' H' O' ρ' us ds S' T' hu g' => call_v S' hu g'⟩
  · exact g.elim
/-- x(..) where the local x holds a def -/
def tCW (P : Program) (w : World) (K : PySem.W.Frag) (mg : Str → Option Value) (base : Heap) (lv i : Nat) (E : Sg → XK) (t : TA) : TE := fun σ H Q => ∃ (f : Addr) (fd : FuncData) (ps : List Str) (sp : Sp), σ[i]? = some (some (.ref f)) ∧ FnG P w K mg base lv f fd ps sp ∧ PySem.W.keepIn K (.ref f) = true ∧ Binds K fd ps [] ∧
  t σ H fun vs H1 => sp vs H1 Q (E σ)
theorem pe_cw {X : Cx} {lv i : Nat} {E : Sg → XK} {x : Str} {p pos : Pos} {e : Expr} {es : List Expr} {t : TA} (gd : X.A.guards = some []) (hr : Room lv X.A) (hN : X.N[i]? = some x) (hv : Vis X.env.scope x)
    (hx : ∀ σ, PassesAt (L2.CX X.prog X.w) X σ (E σ)) (ha : PA X (e :: es) t) (hd : (x == ("__debug__" : Str)) = false := by decide) (hcd : (x == ("__classdict__" : Str)) = false := by decide)
    (he : starEach (e :: es) X.env = (false, eval e X.env) :: starEach es X.env := by rfl) (hp : (backTo pos (starEach es X.env)).any (·.1) = false := by rfl) :
    PE X (.Call (.Name x p) (e :: es) [] pos) (tCW X.prog X.w X.K X.mg X.base lv i E t) := by
  refine ⟨fun pins s σ H Q I hh => ?_⟩
  obtain ⟨f, fd, ps, sp, hs, F, hk, hb, ht⟩ := hh
  have nm := (pe_var (X := X) (i := i) (x := x) (pos := p) hN hv hd hcd).run pins s σ H (fun v H1 => v = V.ref f ∧ H1 = H) I ⟨V.ref f, hs, rfl, rfl⟩
  refine wpAny_Call_Name_kw (thn nm fun u s1 ⟨v, H1, I1, rv, ev, eH⟩ => ?_)
  subst ev; subst eH
  cases rv
  refine PySem.W.callWith_K (h₀ := X.base) I1.ok.mod.kin hk (thn (ha.run pos pins s1 σ _ _ I1 ht) fun us s2 ⟨vs, H2, I2, r, q⟩ => ⟨I2.kIn, ?_⟩) he hp
  have hl : us.length = ps.length := by rw [← r.length]; exact F.len _ _ _ _ q
  have b := hb s2 us I2.kIn (by rw [List.append_nil]; exact hl)
  rw [List.append_nil] at b
  refine wpAny_call (codeAny_mono (F.go X.A X.stack s2 H2 ⟨us, []⟩ us vs Q (E σ) gd hr I2.env0 b r q) fun o s3 hq => ?_)
  cases o with
  | error z => exact hx σ pins H2 s2 z s3 I2 hq
  | ok fl => cases fl with
    | ret u => exact I2.after hq
    | next => exact False.elim hq
    | brk => exact False.elim hq
    | cont => exact False.elim hq
abbrev Tb := List (Nat × Nat × (List Sl → Fo))
def look (tb : Tb) (k : Nat) : Option (Nat × (List Sl → Fo)) := match tb with
  | [] => none
  | (j, n, m) :: r => if j = k then some (n, m) else look r k
/-- what is known of the defs that a name may hold -/
def TbOk (P : Program) (w : World) (K : PySem.W.Frag) (mg : Str → Option Value) (base : Heap) (lv : Nat) (xc : Nat → Addr) (tb : Tb) : Prop := ∀ k n m, look tb k = some (n, m) →
  ∃ fd ps, FnG P w K mg base lv (xc (1000 + k)) fd ps (spF n K xc m) ∧ PySem.W.keepIn K (.ref (xc (1000 + k))) = true ∧ Binds K fd ps []
theorem TbOk.nil {P : Program} {w : World} {K : PySem.W.Frag} {mg : Str → Option Value} {base : Heap} {lv : Nat} {xc : Nat → Addr} : TbOk P w K mg base lv xc [] := fun k n m h => by cases h
theorem TbOk.cons {P : Program} {w : World} {K : PySem.W.Frag} {mg : Str → Option Value} {base : Heap} {lv j n k : Nat} {m : List Sl → Fo} {xc : Nat → Addr} {tb : Tb} {a : Addr} {fd : FuncData} {ps : List Str} (hk : xc (1000 + k) = a) (F : FnG P w K mg base j a fd ps (spF n K xc m)) (hj : j ≤ lv)
    (kp : PySem.W.keepIn K (.ref a) = true) (b : Binds K fd ps []) (r : TbOk P w K mg base lv xc tb) : TbOk P w K mg base lv xc ((k, n, m) :: tb) := by
  subst hk
  intro k' n' m' h
  unfold look at h
  split at h
  · rename_i e
    subst e
    cases Option.some.inj h
    exact ⟨fd, ps, F.up hj, kp, b⟩
  · exact r k' n' m' h
def clW (i : Nat) (tb : Tb) (F : Rho → Ou (List D)) : Rho → Ou Rs := fun ρ => match ρ[i]? with
  | some (.fv k) => match look tb k with
    | some (n, m) => bd (F ρ) (foE n m)
    | none => .bad
  | _ => .bad
theorem sem_cw {p : Pm} {EX : WX} {P : Program} {w : World} {mg : Str → Option Value} {base : Heap} {lv i : Nat} {tb : Tb} {t : TA} {F : Rho → Ou (List D)} (ok : TbOk P w p.K mg base lv p.xc tb) (h : SemAD p EX t F) : SemE p EX (tCW P w p.K mg base lv i (atE EX) t) (clW i tb F) := by
  intro R H O σ ρ Q S g
  unfold clW at g
  split at g
  · rename_i k e
    split at g
    · rename_i n m el
      obtain ⟨fd, ps, G, kp, b⟩ := ok k n m el
      exact ⟨_, fd, ps, _, S.pn i _ _ e rfl, G, kp, b, h.use S g fun R' H' O' ρ' us ds S' T' hu g' => call_d S' hu g'⟩
    · exact g.elim
  · exact g.elim
theorem Stt.setv {p : Pm} {R H : Hp} {O : As} {σ : Sg} {ρ : Rho} {i : Nat} (S : Stt p R H O σ ρ) (k : Nat) : Stt p R H O (σ.set i (some (V.ref (p.xc (1000 + k))))) (ρ.set i (.fv k)) := by
  have other : ∀ {j : Nat}, i ≠ j → (σ.set i (some (V.ref (p.xc (1000 + k)))))[j]? = σ[j]? := fun h => List.getElem?_set_ne h
  refine ⟨S.sub, S.dis, S.al, by rw [List.length_set, List.length_set]; exact S.len, fun j d e => ?_, fun j b ds e => ?_, fun j y w e hw => ?_, fun j l b c ds es a e1 e2 q1 q2 => ?_, fun j tag d e => ?_⟩
  · rcases set_get e with ⟨rfl, z⟩ | ⟨n, z⟩
    · cases z
    · rw [other n]; exact S.im j d z
  · rcases set_get e with ⟨rfl, z⟩ | ⟨n, z⟩
    · cases z
    · rw [other n]; exact S.ow j b ds z
  · rcases set_get e with ⟨rfl, z⟩ | ⟨n, z⟩
    · subst z; cases hw
      have hi : i < (ρ.set i (.fv k)).length := (List.getElem?_eq_some_iff.mp e).1
      rw [List.length_set, S.len] at hi
      rw [List.getElem?_set_self hi]
    · rw [other n]; exact S.pn j y w z hw
  · rcases set_get e1 with ⟨rfl, z1⟩ | ⟨n1, z1⟩
    · cases z1
    · rcases set_get e2 with ⟨rfl, z2⟩ | ⟨n2, z2⟩
      · cases z2
      · rw [other n1] at q1; rw [other n2] at q2; exact S.inj j l b c ds es a z1 z2 q1 q2
  · rcases set_get e with ⟨rfl, z⟩ | ⟨n, z⟩
    · cases z
    · rw [other n]; exact S.xn j tag d z
/-- for x in (f, g, ..): .. -/
def forVL (i : Nat) (B : Rho → So) : List Nat → Rho → So
  | [], ρ => .nx ρ
  | k :: ks, ρ => match B (ρ.set i (.fv k)) with
    | .nx ρ2 => forVL i B ks ρ2
    | .ct ρ2 => forVL i B ks ρ2
    | .bk ρ2 => .nx ρ2
    | o => o
theorem sem_forV {p : Pm} {EX : WX} {t : TA} {ks : List Nat} {i : Nat} {tb : TS} {B : Rho → So} (ht : ∀ (σ : Sg) (H : Hp) (Q : List V → Hp → Prop), Q (ks.map fun k => V.ref (p.xc (1000 + k))) H → t σ H Q) (hz : ks.length ≤ sizeLine) (hb : SemS p EX tb B) :
    SemS p EX (tFor (iSq p.K (tTup t)) (gName i) tb) (forVL i B ks) := by
  intro R H O σ ρ E S g
  have hl : (ks.map fun k => V.ref (p.xc (1000 + k))).length = ks.length := List.length_map _
  generalize hvs : (ks.map fun k => V.ref (p.xc (1000 + k))) = vs at ht hl
  have gv : ∀ j, vs[j]? = ks[j]?.map fun k => V.ref (p.xc (1000 + k)) := fun j => by rw [← hvs, List.getElem?_map]
  refine .inr (ht σ H _ ⟨by rw [hl]; exact hz, fun q hq => ⟨q, rfl, ⟨vs, .inl (.inl upd_same)⟩, ?_⟩⟩)
  obtain ⟨S1, T1⟩ := S.grow (Grow.tup (vs := vs) S.sub hq)
  have g1 := GoodS.tr T1 g
  have hR : upd R q (.tup vs) q = some (.tup vs) := upd_same
  generalize upd R q (.tup vs) = R1 at S1 T1 g1 hR
  generalize upd H q (.tup vs) = H1 at S1 T1 g1
  refine ⟨fun j m σ' H' => m + j = ks.length ∧ j ≤ ks.length ∧ ∃ R' O' ρ', Stt p R' H' O' σ' ρ' ∧ Tr R1 H1 O R' H' O' ∧ GoodS p EX R' H' O' E (forVL i B (ks.drop j) ρ'),
    ⟨ks.length, by omega, Nat.zero_le _, R1, O, ρ, S1, .refl, g1⟩, fun j m σ' H' hW => ?_⟩
  obtain ⟨em, hj, R', O', ρ', S', T', g2⟩ := hW
  have sq : SqT p.K H' q vs := .inl (.inl (S'.sub _ _ (T'.r _ _ hR)))
  by_cases hjl : j < ks.length
  · have ek : ks[j]? = some ks[j] := List.getElem?_eq_getElem hjl
    have ev : vs[j]? = some (V.ref (p.xc (1000 + ks[j]))) := by rw [gv, ek]; rfl
    rw [List.drop_eq_getElem_cons hjl] at g2
    refine .inr ⟨⟨vs, _, sq, ev⟩, fun σ2 H2 => ∃ R2 O2 ρ2, Stt p R2 H2 O2 σ2 ρ2 ∧ Tr R1 H1 O R2 H2 O2 ∧ GoodS p EX R2 H2 O2 E (forVL i B (ks.drop (j + 1)) ρ2), fun σ2 H2 hN => ⟨m - 1, by omega, by omega, hjl, hN⟩, fun x H2 hy => ?_⟩
    obtain ⟨rfl, hy2⟩ := hy
    have ex := hy2 vs sq
    rw [ev] at ex; cases ex
    have S2 := S'.setv (i := i) ks[j]
    refine hb R' H2 O' _ _ _ S2 ?_
    unfold forVL at g2
    cases qb : B (ρ'.set i (.fv ks[j])) with
    | bad => rw [qb] at g2; exact g2
    | nx ρ2 => rw [qb] at g2; exact fun σ3 R3 H3 O3 S3 T4 => ⟨R3, O3, ρ2, S3, T'.trans T4, g2.tr T4⟩
    | ct ρ2 => rw [qb] at g2; exact fun σ3 R3 H3 O3 S3 T4 => ⟨R3, O3, ρ2, S3, T'.trans T4, g2.tr T4⟩
    | bk ρ2 => rw [qb] at g2; exact g2
    | rt r ρ2 => rw [qb] at g2; exact g2
    | ex t d ρ2 => rw [qb] at g2; exact g2
  · rw [List.drop_eq_nil_of_le (by omega)] at g2
    exact .inl ⟨⟨vs, sq, by rw [hl]; omega⟩, g2 σ' R' H' O' S' .refl⟩
end VL

namespace VL
open PySem PySem.Spec PyProof.Rows L2
/-! ### several except clauses, each with the name of the error -/
abbrev Ts3 := Addr → Value → Option Addr → TS
def wMs (K : PySem.W.Frag) (i : Nat) (Wout : WX) (D : Ends) : List (Value × Ts3) → WX
  | [] => Wout
  | (c, ts) :: r => wAs K c i ts (wMs K i Wout D r) D
inductive HdN (X : Cx) (n : Str) : List ExceptHandler → List (Value × Ts3) → Prop
  | nil : HdN X n [] []
  | cons {x : Str} {c : Value} {ts : Ts3} {b₀ : Stmt} {su : List Stmt} {np p2 : Pos} {hds : List ExceptHandler} {l : List (Value × Ts3)} (nm : Names X x c)
      (go : ∀ (a : Addr) (oe : Obj) (cls : Value) (d : Option Addr) (pn : List (Addr × Obj)), Zc cls d oe → (∃ vs, oe.data = .fields vs) → PSs (X.suite a ((a, oe) :: pn)) (b₀ :: su) (ts a cls d)) (r : HdN X n hds l) :
      HdN X n (.ExceptHandler (some (.Name x np)) (some n) (b₀ :: su) p2 :: hds) ((c, ts) :: l)
section
variable {X : Cx} {n : Str} {i : Nat} {body : List Stmt} {hd : ExceptHandler} {hds : List ExceptHandler} {l : List (Value × Ts3)} {pos : Pos} {tb : WX → TS} {Wout : WX}
/-- the flying error is none of the frames -/
theorem fly_apart {B : Heap} {e : Addr} {Z : Obj → Prop} {h : Heap} (hf : X.env.frame = some X.env.locals) (fl : HandSPX.FlyingZ B (X.env :: X.outer) e Z h) : e ≠ X.env.locals ∧ e ∉ X.fs := by
  obtain ⟨o, vs, g1, _, g2⟩ := fl.there
  have apart : e ∉ frs (X.env :: X.outer) := fun m => by
    obtain ⟨_, o2, g3, bad⟩ := fl.2.2.1.mem m
    rw [g1] at g3
    cases g3
    exact bad _ g2
  constructor
  · intro z
    refine apart (List.mem_filterMap.mpr ⟨X.env, List.mem_cons_self, ?_⟩)
    rw [hf, z]
  · intro m
    obtain ⟨v, mv, q⟩ := List.mem_filterMap.mp m
    exact apart (List.mem_filterMap.mpr ⟨v, List.mem_cons_of_mem _ mv, q⟩)
/-- the clauses in turn, when an error has been caught -/
theorem handle_ms {pins : List (Addr × Obj)} {D : Ends} {e : Addr} {B : Heap} {t0 t1 : Shared} {τ : Sg} {G : Hp} {cls : Value} {dd : Option Addr} {h : Heap}
    (ok : X.Ok) (hs : X.stack = X.env :: X.outer) (hf : X.env.frame = some X.env.locals) (hN : X.N.Nodup) (hi : X.N[i]? = some n) (hln : X.env.kindOf n = some .local) (tk : Takes X Wout)
    (J : Inv X pins τ G t0) (nb : ∀ (b : Addr) (o : Obj), t0.heap.get? b = some o → ¬b ∈ frs X.stack → B.get? b = some o) (fl : HandSPX.FlyingZ B (X.env :: X.outer) e (Zc cls dd) h) (ut : t0.heap.UpToSlots h)
    (na : G e = none) (os : t1.os = t0.os) (ag : AllBare t1.gens) (hh : HdN X n hds l) :
    wMs X.K i Wout D l cls dd τ G → wpAny (model X.prog X.w) X.A (handleBy (.ref e) X.env hds) (SP X pins D) X.xe { t1 with heap := h } := by
  obtain ⟨nL, nF⟩ := fly_apart hf fl
  have Jh : Inv X pins τ G { t1 with heap := h } := J.landed nb fl.1 ut os ag
  obtain ⟨o1, vs1, g1, z1, d1⟩ := fl.there
  have Sh := Jh.suite g1 d1 na nL nF
  induction hh with
  | nil =>
    intro w
    refine wpAny_handleBy_nil ?_
    obtain ⟨_, _, _, o2, vs2, T, _, _, g2, _, d2, f2, _⟩ := id fl
    unfold PySem.passOn
    refine wpAny_bind (wpAny_field g2 d2 f2 ?_)
    rw [if_neg (show ¬ ((Value.ref T == Value.none) = true) by simp)]
    have last : wpAny (model X.prog X.w) X.A (setFlight (.ref e) X.env.frame) (fun _ t => wpAny (model X.prog X.w) X.A (throw (.ref e) : PySem.Sem Flow) (SP X pins D) X.xe t) X.xe { t1 with heap := h } := by
      rw [hf]
      exact HandSPX.setFlight_upZ fl fun h2 hq u2 => wpAny_throw (tk _ _ ⟨e, B, t0, pins, τ, G, cls, dd, rfl, J, nb, ut.trans u2, .inr (.inr (by rw [hs]; exact hq)), na, os, ag, w⟩)
    first
      | exact wpAny_bind last
      | exact wpAny_bind (wpAny_pure (wpAny_bind last))
  | @cons x c ts b₀ su np p2 hds2 l2 nm go r ih =>
    intro w
    obtain ⟨b, eb, yes, no⟩ := w
    refine wpAny_handleBy_cons (codeAny_handlers_test ?_) (by intro z; cases z)
    have looks : PySem.W.Looks (model X.prog X.w) h (typeOf (.ref e)) cls := fun _ _ _ _ kk q => wpAny_typeOf_ref (kk _ _ g1) (by rw [z1.1]; exact q)
    have matching := PySem.W.exm_one (M := model X.prog X.w) Jh.kIn looks eb
    have named : ∀ {Q : Value → Shared → Prop} {E : Value → Shared → Prop}, Q c { t1 with heap := h } → wpAny (model X.prog X.w) (X.A.mark (some (.ref e))) (eval (.Name x np) X.env) Q E { t1 with heap := h } := by
      intro Q E q
      obtain ⟨gl, nd, m1 | ⟨m1, bv, nn⟩⟩ := nm
      · exact ld_glob (X := X.suite e ((e, o1) :: (X.pn ++ pins))) Sh gl m1 q nd
      · exact ld_blt (X := X.suite e ((e, o1) :: (X.pn ++ pins))) Sh gl m1 bv q nn nd
    refine named (matching.here ?_)
    cases b with
    | false => exact ih (no rfl)
    | true =>
      refine codeAny_handlers_suite_as (HandSPX.lands_againZ fl fun h2 fl2 u2 => ?_)
      have J2 : Inv X pins τ G { t1 with heap := h2 } := J.landed nb fl2.1 (ut.trans u2) os ag
      obtain ⟨o2, vs2, g2, z2, d2⟩ := fl2.there
      have S2 := J2.suite g2 d2 na nL nF
      refine store_ok (X := X.suite e ((e, o2) :: (X.pn ++ pins))) (v := .ref e) S2 hN hi (.inl hln) rfl (fun t5 S5 => ?_) (.inr hln)
      refine wpAny_mono ((go e o2 cls dd (X.pn ++ pins) z2 ⟨_, d2⟩).run [] t5 _ G _ S5 (yes rfl e na)) (fun fw t6 got => ?_) (fun _ _ z => z.elim)
      have out : ∀ {τ6 : Sg} {G6 : Hp} {Q : Shared → Prop}, Inv (X.suite e ((e, o2) :: (X.pn ++ pins))) [] τ6 G6 t6 → (∀ t7, Inv X pins (τ6.set i none) G6 t7 → Q t7) → wpAny (model X.prog X.w) X.A (do bindName X.env n .none; unbindBehindTheSuite X.env n p2) (fun _ t7 => Q t7) X.xe t6 :=
        fun {τ6 G6 Q} S6 q => gone_ok (S6.unsuite ok) hN hi hln q
      cases fw with
      | ret u =>
        obtain ⟨v6, τ6, G6, S6, r6, q6⟩ := got
        exact out S6 fun t7 J7 => ⟨_, _, _, J7, r6, q6⟩
      | next => obtain ⟨τ6, G6, S6, q6⟩ := got; exact out S6 fun t7 J7 => ⟨_, _, J7, q6⟩
      | brk => obtain ⟨τ6, G6, S6, q6⟩ := got; exact out S6 fun t7 J7 => ⟨_, _, J7, q6⟩
      | cont => obtain ⟨τ6, G6, S6, q6⟩ := got; exact out S6 fun t7 J7 => ⟨_, _, J7, q6⟩
theorem ps_try_ms (hs : X.stack = X.env :: X.outer) (hf : X.env.frame = some X.env.locals) (hN : X.N.Nodup) (hi : X.N[i]? = some n) (hln : X.env.kindOf n = some .local) (tk : Takes X Wout)
    (hb : ∀ (W : WX) (pn : List (Addr × Obj)) (xe : Value → Shared → Prop), Takes (X.tr pn xe) W → PassesOwn (model X.prog X.w) X.A X.env xe → PSs (X.tr pn xe) body (tb W)) (hh : HdN X n (hd :: hds) l) :
    PS X (.Try body (hd :: hds) [] [] pos) (fun D σ H => tb (wMs X.K i Wout D l) D σ H) := by
  refine ⟨fun pins s σ H D I hw => ?_⟩
  have ok := I.ok
  have fr : X.A.frames = some (X.env :: X.outer) := by rw [ok.frames, hs]
  refine wpAny_Try_except ?_
  let xe2 : Value → Shared → Prop := fun z t1 => wpAny (model X.prog X.w) X.A (noteFrame z X.env) (fun _ t2 => wpAny (model X.prog X.w) X.A (setFlight z none) (fun _ t3 => wpAny (model X.prog X.w) X.A (handleBy z X.env (hd :: hds)) (SP X pins D) X.xe t3) X.xe t2) X.xe t1
  have takes : Takes (X.tr (X.pn ++ pins) xe2) (wMs X.K i Wout D l) := by
    intro u t1 caught
    obtain ⟨e, B, t0, pins2, τ, G, cls, dd, rfl, J2, nb, up, sky, na, os, ag, w⟩ := caught
    have J : Inv X pins τ G t0 := J2.ofTry ok
    refine Sky.land Zc.steady fr hf (by rw [← hs]; exact sky) fun h fl u2 => ?_
    exact handle_ms ok hs hf hN hi hln tk J nb fl (up.trans u2) na os ag hh w
  refine wpAny_mono ((hb (wMs X.K i Wout D l) (X.pn ++ pins) xe2 takes PassesOwn.looking).run [] s σ H D (I.toTry _) hw) (fun fw t1 got => ?_) (fun _ _ z => z)
  cases fw with
  | next => obtain ⟨τ, G, J2, q⟩ := got; exact wpAny_execs_nil ⟨τ, G, J2.ofTry ok, q⟩
  | brk => obtain ⟨τ, G, J2, q⟩ := got; exact ⟨τ, G, J2.ofTry ok, q⟩
  | cont => obtain ⟨τ, G, J2, q⟩ := got; exact ⟨τ, G, J2.ofTry ok, q⟩
  | ret u => obtain ⟨v, τ, G, J2, r, q⟩ := got; exact ⟨v, τ, G, J2.ofTry ok, r, q⟩
end
/-! ### what they do to data -/
def tryM (i : Nat) (us : List (Nat × (Rho → So))) (B : Rho → So) : Rho → So := fun ρ => match B ρ with
  | .ex t d ρ' => if noXn ρ' = true ∧ pinned ρ' i = false ∧ i < ρ'.length then match us.lookup t with
    | some U => goneS i (U (ρ'.set i (.xn t d)))
    | none => .bad else .bad
  | o => o
theorem land_ok {p : Pm} {EX : WX} {t i : Nat} {C : Addr} (hC : p.xc t = C) {ts : Ts3} {U : Rho → So} (hu : ∀ a d, SemS (pmX p a (.ref C) d) EX0 (ts a (.ref C) d) U) {R' H' : Hp} {O' : As} {σ' : Sg} {ρ' : Rho} {dx : Addr} {v : V} {d : D} {E : Ends}
    (S' : Stt p R' H' O' σ' ρ') (hn : noXn ρ' = true) (hp : pinned ρ' i = false) (hi : i < ρ'.length) (hx : H' dx = some (.xd [(atS, v)])) (no : ¬ O' dx) (hv : Dp p.K R' v d) (g : GoodS p EX R' H' O' E (goneS i (U (ρ'.set i (.xn t d))))) (a : Addr) :
    ts a (.ref C) (some dx) { nx := fun σ H => E.nx (σ.set i none) H, rt := E.rt, bk := fun σ H => E.bk (σ.set i none) H, ct := fun σ H => E.ct (σ.set i none) H } (σ'.set i (some (.ref a))) H' := by
  have S2 : Stt (pmX p a (.ref C) (some dx)) R' H' O' (σ'.set i (some (.ref a))) (ρ'.set i (.xn t d)) := by
    have Sq : Stt (pmX p a (.ref C) (some dx)) R' H' O' σ' ρ' := S'.pm rfl rfl rfl hn
    have other : ∀ {j : Nat}, i ≠ j → (σ'.set i (some (V.ref a)))[j]? = σ'[j]? := fun h => List.getElem?_set_ne h
    refine ⟨Sq.sub, Sq.dis, Sq.al, by rw [List.length_set, List.length_set]; exact Sq.len, fun j d' q => ?_, fun j b ds q => ?_, fun j y w q hw => ?_, fun j k b c ds es x q1 q2 y1 y2 => ?_, fun j t' d' q => ?_⟩
    · rcases set_get q with ⟨_, z⟩ | ⟨n, z⟩
      · cases z
      · rw [other n]; exact Sq.im j d' z
    · rcases set_get q with ⟨_, z⟩ | ⟨n, z⟩
      · cases z
      · rw [other n]; exact Sq.ow j b ds z
    · rcases set_get q with ⟨_, z⟩ | ⟨n, z⟩
      · subst z; cases hw
      · rw [other n]; exact Sq.pn j y w z hw
    · rcases set_get q1 with ⟨_, z1⟩ | ⟨n1, z1⟩
      · cases z1
      · rcases set_get q2 with ⟨_, z2⟩ | ⟨n2, z2⟩
        · cases z2
        · rw [other n1] at y1; rw [other n2] at y2; exact Sq.inj j k b c ds es x z1 z2 y1 y2
    · rcases set_get q with ⟨rfl, z⟩ | ⟨n, z⟩
      · cases z
        refine ⟨?_, ?_, dx, v, rfl, no, hx, hv⟩
        · rw [List.getElem?_set_self (by rw [← Sq.len]; exact hi)]; rfl
        · show Value.ref C = .ref (p.xc t); rw [hC]
      · exact (noXn_at hn z).elim
  refine hu a (some dx) R' H' O' _ _ _ S2 ?_
  have fixS : ∀ {σ3 : Sg} {R3 H3 : Hp} {O3 : As} {ρ3 : Rho}, Stt (pmX p a (.ref C) (some dx)) R3 H3 O3 σ3 ρ3 → noXn (ρ3.set i .un) = true → Stt p R3 H3 O3 σ3 (ρ3.set i .un) := fun S3 h => (S3.put (i := i) (x := .un) (.inl rfl)).pm rfl rfl rfl h
  cases eu : U (ρ'.set i (.xn t d)) with
  | bad => rw [eu] at g; exact g
  | bk ρ3 => rw [eu] at g; exact g.elim
  | ct ρ3 => rw [eu] at g; exact g.elim
  | ex t' d' ρ3 => rw [eu] at g; exact g.elim
  | nx ρ3 =>
    rw [eu] at g
    have g : GoodS p EX R' H' O' E (if noXn (ρ3.set i .un) = true then .nx (ρ3.set i .un) else .bad) := g
    split at g
    · rename_i h3
      intro σ3 R3 H3 O3 S3 T3
      refine g (σ3.set i none) R3 H3 O3 ?_ T3
      have S4 := fixS S3 h3
      have S5 := set_none S4 (i := i) (by unfold pinned; cases q : (ρ3.set i .un)[i]? with
        | none => rfl
        | some y => rcases set_get q with ⟨_, z⟩ | ⟨n, _⟩
                    · subst z; rfl
                    · exact (n rfl).elim)
      rw [List.set_set] at S5
      exact S5
    · exact g.elim
  | rt r ρ3 =>
    rw [eu] at g
    cases r with
    | fr _ => exact g.elim
    | sl _ => exact g.elim
    | im d3 =>
      have g : GoodS p EX R' H' O' E (if noXn (ρ3.set i .un) = true then .rt (.im d3) (ρ3.set i .un) else .bad) := g
      split at g
      · rename_i h3
        exact fun v3 σ3 R3 H3 O3 S3 T3 hr => g v3 σ3 R3 H3 O3 (fixS S3 h3) T3 hr
      · exact g.elim
/-- the clauses as data; a clause's class is none of the later ones' -/
inductive HL (p : Pm) : List (Value × Ts3) → List (Nat × (Rho → So)) → Prop
  | nil : HL p [] []
  | cons {t : Nat} {C : Addr} {ts : Ts3} {U : Rho → So} {l : List (Value × Ts3)} {us : List (Nat × (Rho → So))} (hC : p.xc t = C) (te : PySem.W.exmOne p.K (.ref C) (.ref C) = some true)
      (ne : ∀ u ∈ us.map Prod.fst, PySem.W.exmOne p.K (.ref (p.xc u)) (.ref C) = some false) (hu : ∀ a d, SemS (pmX p a (.ref C) d) EX0 (ts a (.ref C) d) U) (r : HL p l us) : HL p ((.ref C, ts) :: l) ((t, U) :: us)
theorem look_mem {α : Type} {t : Nat} {U : α} : ∀ {us : List (Nat × α)}, us.lookup t = some U → t ∈ us.map Prod.fst
  | [], h => by cases h
  | (u, V) :: us, h => by
    rw [List.lookup_cons] at h
    split at h
    · rename_i e
      rw [show t = u by simpa using e]
      exact List.mem_cons_self
    · exact List.mem_cons_of_mem _ (look_mem h)
theorem hl_ok {p : Pm} {EX Wout : WX} {i t : Nat} {U : Rho → So} {R' H' : Hp} {O' : As} {σ' : Sg} {ρ' : Rho} {dx : Addr} {v : V} {d : D} {E : Ends}
    (S' : Stt p R' H' O' σ' ρ') (hn : noXn ρ' = true) (hp : pinned ρ' i = false) (hi : i < ρ'.length) (hx : H' dx = some (.xd [(atS, v)])) (no : ¬ O' dx) (hv : Dp p.K R' v d) (g : GoodS p EX R' H' O' E (goneS i (U (ρ'.set i (.xn t d))))) :
    ∀ {l : List (Value × Ts3)} {us : List (Nat × (Rho → So))}, HL p l us → us.lookup t = some U → wMs p.K i Wout E l (.ref (p.xc t)) (some dx) σ' H'
  | _, _, .nil, h => by cases h
  | _, _, .cons (t := u) (C := C) (ts := ts) (U := V) (l := l) (us := us) hC te ne hu r, h => by
    rw [List.lookup_cons] at h
    split at h
    · rename_i e
      have e : t = u := by simpa using e
      subst e
      cases Option.some.inj h
      rw [hC]
      exact ⟨true, te, fun _ a _ => land_ok hC hu S' hn hp hi hx no hv g a, fun z => Bool.noConfusion z⟩
    · exact ⟨false, ne t (look_mem h), fun z => Bool.noConfusion z, fun _ => hl_ok S' hn hp hi hx no hv g r h⟩
theorem sem_tryM {p : Pm} {EX : WX} {i : Nat} {Wout : WX} {tb : WX → TS} {l : List (Value × Ts3)} {us : List (Nat × (Rho → So))} {B : Rho → So} (hb : ∀ W, SemS p W (tb W) B) (hl : HL p l us) :
    SemS p EX (fun E σ H => tb (wMs p.K i Wout E l) E σ H) (tryM i us B) := by
  intro R H O σ ρ E S g
  refine hb _ R H O σ ρ E S ?_
  unfold tryM at g
  cases e : B ρ with
  | bad => rw [e] at g; exact g
  | nx ρ' => rw [e] at g; exact g
  | rt r ρ' => rw [e] at g; exact g
  | bk ρ' => rw [e] at g; exact g
  | ct ρ' => rw [e] at g; exact g
  | ex t d ρ' =>
    rw [e] at g
    dsimp only at g
    split at g
    · rename_i hh
      obtain ⟨hn, hp, hi⟩ := hh
      split at g
      · rename_i U eU
        intro dx v σ' R' H' O' S' T' fx hx no hv
        exact hl_ok S' hn hp hi hx no hv (g.tr T') hl eU
      · exact g.elim
    · exact g.elim
/-- an error of the class at C is none of the one at S -/
theorem exm_not {K : PySem.W.Frag} {C S : Addr} (h1 : PySem.W.subIn K (.ref S) (.type "BaseException") = some true) (h2 : PySem.W.isClsIn K S = true) (h3 : PySem.W.typeIn K (.ref S) = some (.type "type")) (h4 : PySem.W.subIn K (.ref C) (.ref S) = some false) :
    PySem.W.exmOne K (.ref C) (.ref S) = some false := by
  have e1 : (PySem.W.subIn K (.ref S) (.type "BaseException") == some true) = true := by rw [h1] <;> rfl
  have e2 : ((PySem.W.clsIn K S).isSome && PySem.W.typeIn K (.ref S) == some (.type "type")) = true := by
    have h2' : (PySem.W.clsIn K S).isSome = true := h2
    rw [h2', h3] <;> rfl
  show (if (PySem.W.subIn K (.ref S) (.type "BaseException") == some true) = true then (if ((PySem.W.clsIn K S).isSome && PySem.W.typeIn K (.ref S) == some (.type "type")) = true then PySem.W.subIn K (.ref C) (.ref S) else none) else none) = some false
  rw [if_pos e1, if_pos e2]
  exact h4
/-- two stores at once, whatever is done with the two values -/
theorem sem_parG {p : Pm} {EX : WX} {i j : Nat} {t u : TE} {F G : Rho → Ou Rs} {Z : Ends → V → V → Sg → Hp → Prop} (hZ : ∀ (E : Ends) (v w : V) (σ : Sg) (R2 H2 : Hp) (O2 : As) (ρ3 : Rho), Stt p R2 H2 O2 ((σ.set i (some v)).set j (some w)) ρ3 → GoodS p EX R2 H2 O2 E (.nx ρ3) → Z E v w σ H2)
    (h : SemE p EX t F) (k : SemE p EX u G) : SemS p EX (fun E σ H => t σ H fun v H1 => u σ H1 fun w H2 => Z E v w σ H2) (parS i j F G) := by
  intro R H O σ ρ E S g
  refine h.nrm.useS S g fun R1 H1 O1 ρ1 v r S1 T1 hv g1 => ?_
  have fin : ∀ {R2 H2 : Hp} {O2 : As} {ρ2 : Rho} {w : V} {s : Rs}, Stt p R2 H2 O2 σ ρ2 → Rr p.K R2 H2 O2 σ ρ2 v r → Rr p.K R2 H2 O2 σ ρ2 w s → (∀ a, (∃ ds, r = .fr ds) → (∃ ds, s = .fr ds) → v = .ref a → w ≠ .ref a) → GoodS p EX R2 H2 O2 E (two i j r s ρ2) → Z E v w σ H2 := by
    intro R2 H2 O2 ρ2 w s S2 h1 h2 ap g2
    have nb : two i j r s ρ2 ≠ .bad := fun z => by rw [z] at g2; exact g2
    obtain ⟨p1, p2, ne, e⟩ := two_eq nb
    obtain ⟨n1, n2⟩ := two_ns nb
    rw [e] at g2
    have S3 := S2.res p1 h1 n1
    have h3 : Rr p.K R2 H2 O2 (σ.set i (some v)) (ρ2.set i (slOf r)) w s := by
      cases s with
      | im d => exact h2
      | sl k => exact (n2 k rfl).elim
      | fr ds =>
        obtain ⟨a, vs, rfl, oa, ha, hd, un⟩ := h2
        refine ⟨a, vs, rfl, oa, ha, hd, fun m b es q q2 => ?_⟩
        rcases set_get q with ⟨rfl, z⟩ | ⟨n, z⟩
        · cases r with
          | im d => cases z
          | sl k => exact (n1 k rfl).elim
          | fr es' =>
            have hi : i < σ.length := by
              have := (List.getElem?_eq_some_iff.mp q).1
              rw [List.length_set] at this; rw [← S2.len]; exact this
            rw [List.getElem?_set_self hi] at q2
            have q3 : v = .ref a := Option.some.inj (Option.some.inj q2)
            exact ap a ⟨_, rfl⟩ ⟨_, rfl⟩ q3 rfl
        · rw [List.getElem?_set_ne n] at q2; exact un m b es z q2
    exact hZ E v w σ R2 H2 O2 _ (S3.res (set_pin p2) h3 n2) g2
  cases r with
  | sl m =>
    refine k.nrm.useS S1 g1 fun R2 H2 O2 ρ2 w s S2 T2 hw g2 => ?_
    have nb : two i j (.sl m) s ρ2 ≠ .bad := fun z => by rw [z] at g2; exact g2
    exact ((two_ns nb).1 m rfl).elim
  | im d => exact k.nrm.useS S1 g1 fun R2 H2 O2 ρ2 w s S2 T2 hw g2 => fin S2 (T2.dp hv) hw (fun a z => by obtain ⟨ds, z⟩ := z; cases z) g2
  | fr ds =>
    obtain ⟨a, vs, rfl, oa, ha, hd, un⟩ := hv
    have Sl1 := S1.less un
    have na := S1.dis a oa
    refine k.nrm R1 H1 _ σ ρ1 _ Sl1 ?_
    show Good p EX (Rr p.K) R1 H1 (fun b => O1 b ∧ b ≠ a) σ _ (nrm (G ρ1))
    have g1 : GoodS p EX R1 H1 O1 E (bs (nrm (G ρ1)) fun s ρ2 => two i j (.fr ds) s ρ2) := g1
    cases e : nrm (G ρ1) with
    | bad => rw [e] at g1; exact g1.elim
    | ex tg d ρ2 =>
      rw [e] at g1
      intro dx x R2 H2 O2 S2 T2 fx hx no hd2
      obtain ⟨S3, T3, _⟩ := S2.back (vs := []) T2 ha na (fun z => z.2 rfl) (fun w z => by cases z) (fun b z => z.1) oa
      exact g1 dx x σ R2 H2 _ S3 T3 fx hx (fun z => z.elim no fun z => by subst z; rw [fx] at ha; cases ha) hd2
    | ok s ρ2 =>
      rw [e] at g1
      intro w R2 H2 O2 S2 T2 hw
      obtain ⟨S3, T3, h3, r3, o3⟩ := S2.back (vs := []) T2 ha na (fun z => z.2 rfl) (fun w z => by cases z) (fun b z => z.1) oa
      have un2 : ∀ (m : Nat) b es, ρ2[m]? = some (.ow b es) → σ[m]? ≠ some (some (.ref a)) := fun m b es q q2 => by
        obtain ⟨c, ws, y1, y2, _⟩ := S2.ow m b es q
        rw [y1] at q2; cases q2; exact o3 y2
      refine fin S3 ⟨a, vs, rfl, .inr rfl, h3, T2.dps hd, un2⟩ ?_ (fun c _ hs z1 z2 => ?_) (GoodS.tr T3 g1)
      · cases s with
        | im d => exact hw
        | sl m => exact hw
        | fr es =>
          obtain ⟨c, ws, rfl, oc, hc, hd2, un3⟩ := hw
          exact ⟨c, ws, rfl, .inl oc, hc, hd2, un3⟩
      · obtain ⟨es, rfl⟩ := hs
        obtain ⟨c', ws, e1, oc, _⟩ := hw
        cases z1
        rw [e1] at z2; cases z2
        exact o3 oc
/-- a, b = x, y where a name is a cell: by the pair itself -/
theorem sem_parU {p : Pm} {EX : WX} {i j : Nat} {t u : TE} {F G : Rho → Ou Rs} (h : SemE p EX t F) (k : SemE p EX u G) : SemS p EX (tAsg (tTup (tCons t (tCons u tNil))) (gU p.K 2 (gCons (gName i) (gCons (gName j) gNil)))) (parS i j F G) := by
  refine sem_parG (Z := fun E v w σ H2 => [v, w].length ≤ sizeLine ∧ ∀ q, H2 q = none → gU p.K 2 (gCons (gName i) (gCons (gName j) gNil)) (V.ref q) σ (upd H2 q (.tup [v, w])) E.nx) (fun E v w σ R2 H2 O2 ρ3 S3 g => ⟨by show 2 ≤ sizeLine; decide +kernel, fun q hq => ?_⟩) h k
  obtain ⟨S4, T4⟩ := S3.laid (o := .tup [v, w]) hq
  exact .inl ⟨q, [v, w], rfl, .inl (.inl upd_same), rfl, v, [w], rfl, w, [], rfl, rfl, g _ _ _ _ S4 T4⟩
/-- a, b, c = x, y, z: all data -/
def par3O (i j l : Nat) (ds : List D) (ρ : Rho) : So := match ds with
  | [a, b, c] => if pinned ρ i = true ∨ pinned ρ j = true ∨ pinned ρ l = true then .bad else .nx (((ρ.set i (.im a)).set j (.im b)).set l (.im c))
  | _ => .bad
def par3S (i j l : Nat) (F : Rho → Ou (List D)) : Rho → So := fun ρ => bs (F ρ) (par3O i j l)
theorem pin_set {ρ : Rho} {i j : Nat} {d : D} (h : pinned ρ j = false) : pinned (ρ.set i (.im d)) j = false := set_pin (r := .im d) h
theorem sem_par3 {p : Pm} {EX : WX} {i j l : Nat} {t : TA} {F : Rho → Ou (List D)} (h : SemAD p EX t F) : SemS p EX (tPar3 i j l t) (par3S i j l F) := by
  intro R H O σ ρ E S g
  refine h.useS S g fun R1 H1 O1 ρ1 vs ds S1 T1 hv g1 => ?_
  unfold par3O at g1
  split at g1
  · rename_i a b c
    split at g1
    · exact g1.elim
    · rename_i hh
      have h1 : pinned ρ1 i = false := by cases q : pinned ρ1 i with | false => rfl | true => exact (hh (.inl q)).elim
      have h2 : pinned ρ1 j = false := by cases q : pinned ρ1 j with | false => rfl | true => exact (hh (.inr (.inl q))).elim
      have h3 : pinned ρ1 l = false := by cases q : pinned ρ1 l with | false => rfl | true => exact (hh (.inr (.inr q))).elim
      cases hv with
      | cons da h4 => cases h4 with
        | cons db h5 => cases h5 with
          | cons dc h6 =>
            cases h6
            refine ⟨_, _, _, rfl, g1 _ R1 H1 O1 ?_ .refl⟩
            have A := S1.store h1 (.inl ⟨_, rfl, da⟩)
            have B := A.store (pin_set h2) (.inl ⟨_, rfl, db⟩)
            exact B.store (pin_set (pin_set h3)) (.inl ⟨_, rfl, dc⟩)
  · exact g1.elim
end VL

namespace VL
open PySem PySem.Spec PyProof.Rows L2
/-! ### several stores at once, lists of their own among them -/
def Ap (a : Addr) : List V → List Rs → Prop
  | v :: vs, r :: rs => (∀ ds, r = .fr ds → v ≠ .ref a) ∧ Ap a vs rs
  | _, _ => True
def RL (K : PySem.W.Frag) (R H : Hp) (O : As) (σ : Sg) (ρ : Rho) : List V → List Rs → Prop
  | [], [] => True
  | v :: vs, r :: rs => Rr K R H O σ ρ v r ∧ (∀ i, r ≠ .sl i) ∧ (∀ ds a, r = .fr ds → v = .ref a → Ap a vs rs) ∧ RL K R H O σ ρ vs rs
  | _, _ => False
theorem RL.more {K : PySem.W.Frag} {R H : Hp} {O P : As} {σ : Sg} {ρ : Rho} (le : ∀ b, O b → P b) : ∀ {vs : List V} {rs : List Rs}, RL K R H O σ ρ vs rs → RL K R H P σ ρ vs rs
  | [], [], _ => True.intro
  | v :: vs, r :: rs, h => by
    refine ⟨?_, h.2.1, h.2.2.1, RL.more le h.2.2.2⟩
    have h1 := h.1
    cases r with
    | im d => exact h1
    | sl i => exact h1
    | fr ds => obtain ⟨a, ws, e, oa, q⟩ := h1; exact ⟨a, ws, e, le a oa, q⟩
  | [], _ :: _, h => h.elim
  | _ :: _, [], h => h.elim
theorem RL.ap {K : PySem.W.Frag} {R H : Hp} {O : As} {σ : Sg} {ρ : Rho} {a : Addr} (na : ¬ O a) : ∀ {vs : List V} {rs : List Rs}, RL K R H O σ ρ vs rs → Ap a vs rs
  | [], [], _ => True.intro
  | v :: vs, r :: rs, h => by
    refine ⟨fun ds e z => ?_, RL.ap na h.2.2.2⟩
    have h1 := h.1
    subst e; subst z
    obtain ⟨c, ws, e, oc, _⟩ := h1
    cases e
    exact na oc
  | [], _ :: _, h => h.elim
  | _ :: _, [], h => h.elim
theorem RL.len {K : PySem.W.Frag} {R H : Hp} {O : As} {σ : Sg} {ρ : Rho} : ∀ {vs : List V} {rs : List Rs}, RL K R H O σ ρ vs rs → vs.length = rs.length
  | [], [], _ => rfl
  | v :: vs, r :: rs, h => by rw [List.length_cons, List.length_cons, RL.len h.2.2.2]
  | [], _ :: _, h => h.elim
  | _ :: _, [], h => h.elim
abbrev SemL (p : Pm) (EX : WX) : TA → (Rho → Ou (List Rs)) → Prop := Sem p EX (fun R H O σ ρ vs rs => RL p.K R H O σ ρ vs rs)
def nilL : Rho → Ou (List Rs) := fun ρ => .ok [] ρ
def addL (r : Rs) (o : Ou (List Rs)) : Ou (List Rs) := bd o fun rs ρ2 => .ok (r :: rs) ρ2
def consL (Fa : Rho → Ou Rs) (Fr : Rho → Ou (List Rs)) : Rho → Ou (List Rs) := fun ρ => bd (nrm (Fa ρ)) fun r ρ1 => match r with
  | .sl _ => .bad
  | r => addL r (Fr ρ1)
theorem sem_nilL {p : Pm} {EX : WX} : SemL p EX tNil nilL := fun R H O σ ρ Q S g => g [] R H O S .refl True.intro
theorem sem_consL {p : Pm} {EX : WX} {t : TE} {u : TA} {F : Rho → Ou Rs} {G : Rho → Ou (List Rs)} (h : SemE p EX t F) (k : SemL p EX u G) : SemL p EX (tCons t u) (consL F G) := by
  intro R H O σ ρ Q S g
  refine h.nrm.use (G := fun r ρ1 => match r with | .sl _ => .bad | r => addL r (G ρ1)) S g fun R1 H1 O1 ρ1 v r S1 T1 hv g1 => ?_
  cases r with
  | sl m => exact g1.elim
  | im d =>
    refine k.use (G := fun rs ρ2 => .ok (.im d :: rs) ρ2) S1 g1 fun R2 H2 O2 ρ2 ws rs S2 T2 hw g2 => ?_
    exact g2 (v :: ws) R2 H2 O2 S2 .refl ⟨T2.dp hv, fun _ z => (nomatch z), fun _ _ z => (nomatch z), hw⟩
  | fr ds =>
    obtain ⟨a, vs, rfl, oa, ha, hd, un⟩ := hv
    have Sl1 := S1.less un
    have na := S1.dis a oa
    refine k R1 H1 _ σ ρ1 _ Sl1 ?_
    have g1 : Good p EX (fun R H O σ ρ vs rs => RL p.K R H O σ ρ vs rs) R1 H1 O1 σ Q (addL (.fr ds) (G ρ1)) := g1
    cases e : G ρ1 with
    | bad => rw [e] at g1; exact g1.elim
    | ex tg d ρ2 =>
      rw [e] at g1
      intro dx x R2 H2 O2 S2 T2 fx hx no hd2
      obtain ⟨S3, T3, _⟩ := S2.back (vs := []) T2 ha na (fun z => z.2 rfl) (fun w z => by cases z) (fun b z => z.1) oa
      exact g1 dx x R2 H2 _ S3 T3 fx hx (fun z => z.elim no fun z => by subst z; rw [fx] at ha; cases ha) hd2
    | ok rs ρ2 =>
      rw [e] at g1
      intro ws R2 H2 O2 S2 T2 hw
      obtain ⟨S3, T3, h3, r3, o3⟩ := S2.back (vs := []) T2 ha na (fun z => z.2 rfl) (fun w z => by cases z) (fun b z => z.1) oa
      have un2 : ∀ (m : Nat) b es, ρ2[m]? = some (.ow b es) → σ[m]? ≠ some (some (.ref a)) := fun m b es q q2 => by
        obtain ⟨c, ws, y1, y2, _⟩ := S2.ow m b es q
        rw [y1] at q2; cases q2; exact o3 y2
      exact g1 (.ref a :: ws) R2 H2 _ S3 T3 ⟨⟨a, vs, rfl, .inr rfl, h3, T2.dps hd, un2⟩, fun _ z => (nomatch z), fun ds' c _ ec => by cases ec; exact hw.ap o3, hw.more fun b z => .inl z⟩
def setL : List Nat → List Rs → Rho → Rho
  | i :: is, r :: rs, ρ => setL is rs (ρ.set i (slOf r))
  | _, _, ρ => ρ
def setV : List Nat → List V → Sg → Sg
  | i :: is, v :: vs, σ => setV is vs (σ.set i (some v))
  | _, _, σ => σ
theorem RL.set {p : Pm} {R H : Hp} {O : As} {σ : Sg} {ρ : Rho} {i : Nat} {v : V} {r : Rs} (S : Stt p R H O σ ρ) (ns : ∀ k, r ≠ .sl k) : ∀ {vs : List V} {rs : List Rs}, (∀ ds a, r = .fr ds → v = .ref a → Ap a vs rs) → RL p.K R H O σ ρ vs rs → RL p.K R H O (σ.set i (some v)) (ρ.set i (slOf r)) vs rs
  | [], [], _, _ => True.intro
  | w :: vs, s :: rs, ap, h => by
    refine ⟨?_, h.2.1, h.2.2.1, RL.set S ns (fun ds a e1 e2 => (ap ds a e1 e2).2) h.2.2.2⟩
    have h1 := h.1
    cases s with
    | im d => exact h1
    | sl k => exact (h.2.1 k rfl).elim
    | fr ds =>
      obtain ⟨a, ws, rfl, oa, ha, hd, un⟩ := h1
      refine ⟨a, ws, rfl, oa, ha, hd, fun m b es q q2 => ?_⟩
      rcases set_get q with ⟨rfl, z⟩ | ⟨n, z⟩
      · cases r with
        | im d => cases z
        | sl k => exact (ns k rfl).elim
        | fr es' =>
          have hi : i < σ.length := by
            have := (List.getElem?_eq_some_iff.mp q).1
            rw [List.length_set] at this; rw [← S.len]; exact this
          rw [List.getElem?_set_self hi] at q2
          have q3 : v = .ref a := Option.some.inj (Option.some.inj q2)
          exact (ap _ a rfl q3).1 _ rfl rfl
      · rw [List.getElem?_set_ne n] at q2; exact un m b es z q2
  | [], _ :: _, _, h => h.elim
  | _ :: _, [], _, h => h.elim
theorem Stt.setL {p : Pm} {R H : Hp} {O : As} : ∀ {is : List Nat} {vs : List V} {rs : List Rs} {σ : Sg} {ρ : Rho}, Stt p R H O σ ρ → (∀ i ∈ is, pinned ρ i = false) → RL p.K R H O σ ρ vs rs → Stt p R H O (setV is vs σ) (VL.setL is rs ρ)
  | [], _, _, _, _, S, _, _ => by unfold setV VL.setL; exact S
  | _ :: _, [], [], _, _, S, _, _ => by unfold setV VL.setL; exact S
  | i :: is, v :: vs, r :: rs, σ, ρ, S, np, h => by
    unfold setV VL.setL
    refine Stt.setL (S.res (np i List.mem_cons_self) h.1 h.2.1) (fun j hj => set_pin (np j (List.mem_cons_of_mem _ hj))) ?_
    exact RL.set S h.2.1 (fun ds a e1 e2 => h.2.2.1 ds a e1 e2) h.2.2.2
  | _ :: _, [], _ :: _, _, _, _, _, h => h.elim
  | _ :: _, _ :: _, [], _, _, _, _, h => h.elim
def parM (is : List Nat) (rs : List Rs) (ρ : Rho) : So := if rs.length = is.length ∧ (is.all fun i => !pinned ρ i) = true then .nx (setL is rs ρ) else .bad
def parN (is : List Nat) (F : Rho → Ou (List Rs)) : Rho → So := fun ρ => bs (F ρ) (parM is)
theorem sem_parN {p : Pm} {EX : WX} {is : List Nat} {t : TA} {F : Rho → Ou (List Rs)} {Z : Ends → List V → Sg → Hp → Prop} (hZ : ∀ (E : Ends) (vs : List V) (σ : Sg) (R2 H2 : Hp) (O2 : As) (ρ3 : Rho), vs.length = is.length → Stt p R2 H2 O2 (setV is vs σ) ρ3 → GoodS p EX R2 H2 O2 E (.nx ρ3) → Z E vs σ H2)
    (h : SemL p EX t F) : SemS p EX (fun E σ H => t σ H fun vs H1 => Z E vs σ H1) (parN is F) := by
  intro R H O σ ρ E S g
  refine h.useS S g fun R1 H1 O1 ρ1 vs rs S1 T1 hv g1 => ?_
  unfold parM at g1
  split at g1
  · rename_i hh
    refine hZ E vs σ R1 H1 O1 _ (by rw [hv.len]; exact hh.1) (S1.setL (fun i hi => ?_) hv) g1
    have := List.all_eq_true.mp hh.2 i hi
    simpa using this
  · exact g1.elim
theorem v3 {vs : List V} (h : vs.length = 3) : ∃ u v w, vs = [u, v, w] := by
  match vs, h with
  | [u, v, w], _ => exact ⟨u, v, w, rfl⟩
theorem sem_parN3 {p : Pm} {EX : WX} {i j l : Nat} {t : TA} {F : Rho → Ou (List Rs)} (h : SemL p EX t F) : SemS p EX (tPar3 i j l t) (parN [i, j, l] F) :=
  sem_parN (Z := fun E vs σ H1 => ∃ u v w, vs = [u, v, w] ∧ E.nx (((σ.set i (some u)).set j (some v)).set l (some w)) H1) (fun E vs σ R2 H2 O2 ρ3 hl S3 g => by
    obtain ⟨u, v, w, rfl⟩ := v3 hl
    exact ⟨u, v, w, rfl, g _ R2 H2 O2 S3 .refl⟩) h
/-- where a name is a cell: by the tuple itself -/
theorem sem_parU3 {p : Pm} {EX : WX} {i j l : Nat} {t : TA} {F : Rho → Ou (List Rs)} (h : SemL p EX t F) : SemS p EX (tAsg (tTup t) (gU p.K 3 (gCons (gName i) (gCons (gName j) (gCons (gName l) gNil))))) (parN [i, j, l] F) :=
  sem_parN (Z := fun E vs σ H1 => vs.length ≤ sizeLine ∧ ∀ q, H1 q = none → gU p.K 3 (gCons (gName i) (gCons (gName j) (gCons (gName l) gNil))) (V.ref q) σ (upd H1 q (.tup vs)) E.nx) (fun E vs σ R2 H2 O2 ρ3 hl S3 g => by
    obtain ⟨u, v, w, rfl⟩ := v3 hl
    refine ⟨by show 3 ≤ sizeLine; decide +kernel, fun q hq => ?_⟩
    obtain ⟨S4, T4⟩ := S3.laid (o := .tup [u, v, w]) hq
    exact .inl ⟨q, [u, v, w], rfl, .inl (.inl upd_same), rfl, u, [v, w], rfl, v, [w], rfl, w, [], rfl, rfl, g _ _ _ _ S4 T4⟩) h
end VL

namespace VL
open PySem PySem.Spec PyProof.Rows L2
/-! ### list(range(..)), tuple(range(..)) -/
theorem dp_rng {K : PySem.W.Frag} {R : Hp} (i : Int) : ∀ l : List Nat, DpAll K R (l.map fun k => V.int (i + (k : Nat))) (l.map fun k => PyData.int (i + (k : Nat)))
  | [] => .nil
  | _ :: l => .cons (.int _) (dp_rng i l)
def rgB (i j : Int) : Bool := decide (0 ≤ i) && decide (i ≤ 16777216) && decide (0 ≤ j) && decide (j ≤ 16777216)
theorem rgB_ok {i j : Int} (h : rgB i j = true) : RgOk i j := by
  unfold rgB at h
  simp only [Bool.and_eq_true, decide_eq_true_eq] at h
  exact RgOk.of_le h.1.1.1 h.2 h.1.1.2 h.1.2
def rgL1 (ds : List D) (ρ : Rho) : Ou Rs := match ds with
  | [.int j] => if rgB 0 j = true then .ok (.fr (rngD 0 j)) ρ else .bad
  | _ => .bad
def rgL1F (F : Rho → Ou (List D)) : Rho → Ou Rs := fun ρ => bd (F ρ) rgL1
def rgL2 (ds : List D) (ρ : Rho) : Ou Rs := match ds with
  | [.int i, .int j] => if rgB i j = true then .ok (.fr (rngD i j)) ρ else .bad
  | _ => .bad
def rgL2F (F : Rho → Ou (List D)) : Rho → Ou Rs := fun ρ => bd (F ρ) rgL2
def rgT1 (ds : List D) (ρ : Rho) : Ou Rs := match ds with
  | [.int j] => if rgB 0 j = true then .ok (.im (.tuple (rngD 0 j))) ρ else .bad
  | _ => .bad
def rgT1F (F : Rho → Ou (List D)) : Rho → Ou Rs := fun ρ => bd (F ρ) rgT1
def rgT2 (ds : List D) (ρ : Rho) : Ou Rs := match ds with
  | [.int i, .int j] => if rgB i j = true then .ok (.im (.tuple (rngD i j))) ρ else .bad
  | _ => .bad
def rgT2F (F : Rho → Ou (List D)) : Rho → Ou Rs := fun ρ => bd (F ρ) rgT2
section
variable {p : Pm} {EX : WX} {t u : TE} {F : Rho → Ou (List D)}
theorem rl_out {R H : Hp} {O : As} {σ : Sg} {ρ : Rho} {Q : VK} {i j : Int} (S : Stt p R H O σ ρ) (g : Good p EX (Rr p.K) R H O σ Q (.ok (.fr (rngD i j)) ρ)) : ∀ q, H q = none → Q (.ref q) (upd H q (.lst (rgV i j))) :=
  fun q hq => out_of (z := .fr (rngD i j)) S (fun _ z => nomatch z) g q (rgV i j) hq (dp_rng i _)
theorem rt_out {R H : Hp} {O : As} {σ : Sg} {ρ : Rho} {Q : VK} {i j : Int} (S : Stt p R H O σ ρ) (g : Good p EX (Rr p.K) R H O σ Q (.ok (.im (.tuple (rngD i j))) ρ)) : ∀ q, H q = none → Q (.ref q) (upd H q (.tup (rgV i j))) :=
  fun q hq => out_of (z := .im (.tuple (rngD i j))) S (fun _ z => nomatch z) g _ _ _ (Grow.tup S.sub hq) (.tup (.inl (.inl upd_same)) (dp_rng i _))
theorem sem_rgL1 (h : SemAD p EX (tCons t tNil) F) : SemE p EX (tLstRg (tRg1 t)) (rgL1F F) := by
  intro R H O σ ρ Q S g
  refine h.use (G := rgL1) (k := fun vs H2 => match vs with | [x] => ∃ j, x = .int j ∧ RgOk 0 j ∧ ∀ q, H2 q = none → Q (.ref q) (upd H2 q (.lst (rgV 0 j))) | _ => False) S g fun R1 H1 O1 ρ1 vs ds S1 T1 hv g1 => ?_
  unfold rgL1 at g1
  split at g1
  · rename_i j
    split at g1
    · rename_i hb
      cases hv with
      | cons h1 h2 => cases h2; cases h1; exact ⟨j, rfl, rgB_ok hb, rl_out S1 g1⟩
    · exact g1.elim
  · exact g1.elim
theorem sem_rgL2 (h : SemAD p EX (tCons t (tCons u tNil)) F) : SemE p EX (tLstRg (tRg2 t u)) (rgL2F F) := by
  intro R H O σ ρ Q S g
  refine h.use (G := rgL2) (k := fun vs H2 => match vs with | [x, y] => ∃ i j, x = .int i ∧ y = .int j ∧ RgOk i j ∧ ∀ q, H2 q = none → Q (.ref q) (upd H2 q (.lst (rgV i j))) | _ => False) S g fun R1 H1 O1 ρ1 vs ds S1 T1 hv g1 => ?_
  unfold rgL2 at g1
  split at g1
  · rename_i i j
    split at g1
    · rename_i hb
      cases hv with
      | cons h1 h2 => cases h2 with
        | cons h3 h4 => cases h4; cases h1; cases h3; exact ⟨i, j, rfl, rfl, rgB_ok hb, rl_out S1 g1⟩
    · exact g1.elim
  · exact g1.elim
theorem sem_rgT1 (h : SemAD p EX (tCons t tNil) F) : SemE p EX (tTupRg (tRg1 t)) (rgT1F F) := by
  intro R H O σ ρ Q S g
  refine h.use (G := rgT1) (k := fun vs H2 => match vs with | [x] => ∃ j, x = .int j ∧ RgOk 0 j ∧ ∀ q, H2 q = none → Q (.ref q) (upd H2 q (.tup (rgV 0 j))) | _ => False) S g fun R1 H1 O1 ρ1 vs ds S1 T1 hv g1 => ?_
  unfold rgT1 at g1
  split at g1
  · rename_i j
    split at g1
    · rename_i hb
      cases hv with
      | cons h1 h2 => cases h2; cases h1; exact ⟨j, rfl, rgB_ok hb, rt_out S1 g1⟩
    · exact g1.elim
  · exact g1.elim
theorem sem_rgT2 (h : SemAD p EX (tCons t (tCons u tNil)) F) : SemE p EX (tTupRg (tRg2 t u)) (rgT2F F) := by
  intro R H O σ ρ Q S g
  refine h.use (G := rgT2) (k := fun vs H2 => match vs with | [x, y] => ∃ i j, x = .int i ∧ y = .int j ∧ RgOk i j ∧ ∀ q, H2 q = none → Q (.ref q) (upd H2 q (.tup (rgV i j))) | _ => False) S g fun R1 H1 O1 ρ1 vs ds S1 T1 hv g1 => ?_
  unfold rgT2 at g1
  split at g1
  · rename_i i j
    split at g1
    · rename_i hb
      cases hv with
      | cons h1 h2 => cases h2 with
        | cons h3 h4 => cases h4; cases h1; cases h3; exact ⟨i, j, rfl, rfl, rgB_ok hb, rt_out S1 g1⟩
    · exact g1.elim
  · exact g1.elim
end
end VL

namespace VL
open PySem PySem.Spec PyProof.Rows L2
/-! ### sorted(xs), pairs of ints -/
abbrev P2 := Int × Int
abbrev pV (p : P2) : List V := [V.int p.1, V.int p.2]
abbrev pD (p : P2) : D := .tuple [.int p.1, .int p.2]
def lePr (p q : P2) : Bool := !SrtO.lexB q p
/-- x is this pair -/
def IsP (K : PySem.W.Frag) (H : Hp) (x : V × P2) : Prop := ∃ t, x.1 = V.ref t ∧ SqT K H t (pV x.2)
def rSrtP (K : PySem.W.Frag) : List V → Hp → VK → Prop := fun vs H Q => ∃ (a : Addr) (zs : List (V × P2)), vs = [V.ref a] ∧ (SqL K H a (zs.map (·.1)) ∨ SqT K H a (zs.map (·.1))) ∧ (∀ z ∈ zs, IsP K H z) ∧
  ∀ (ws : List (V × P2)) p, ws.Perm zs → (ws.map (·.2)).Pairwise (fun x y => lePr x y = true) → H p = none → Q (.ref p) (upd H p (.lst (ws.map (·.1))))
section
variable {X : Cx}
theorem vals_zip : ∀ {xs : List V} {us : List Value}, Vals xs us → xs.length = us.length
  | _, _, .nil => rfl
  | _, _, .cons _ t => by rw [List.length_cons, List.length_cons, vals_zip t]
open Classical in
noncomputable def kOf (h : Heap) (v : Value) : P2 := if e : ∃ p : P2, Srt.IsPair h v p.1 p.2 then e.choose else (0, 0)
theorem pair_inj {h : Heap} {v : Value} {x y x' y' : Int} (p : Srt.IsPair h v x y) (q : Srt.IsPair h v x' y') : x = x' ∧ y = y' := by
  obtain ⟨a, o, t, u, n, rfl, ho, hc, hd⟩ := p
  obtain ⟨a', o', t', u', n', e, ho', hc', hd'⟩ := q
  cases e
  rw [ho] at ho'
  cases ho'
  rw [hd] at hd'
  have e1 := Data.seq.inj hd'
  have e2 := e1.1
  simp at e2
  exact ⟨e2.1.1, e2.2.1⟩
theorem kOf_eq {h : Heap} {v : Value} {p : P2} (e : Srt.IsPair h v p.1 p.2) : kOf h v = p := by
  unfold kOf
  have ex : ∃ p : P2, Srt.IsPair h v p.1 p.2 := ⟨p, e⟩
  rw [dif_pos ex]
  have := pair_inj ex.choose_spec e
  exact Prod.ext this.1 this.2
theorem isP_raw {pins : List (Addr × Obj)} {σ : L2.St} {H : Hp} {s : Shared} (I : Inv X pins σ H s) {t : Addr} {p : P2} (h : SqT X.K H t (pV p)) : Srt.IsPair s.heap (.ref t) p.1 p.2 := by
  obtain ⟨its, rv, ⟨o, ho, hc, n, hd⟩, _⟩ := I.tuple h
  obtain ⟨u1, u2, rfl, ri, rj⟩ := vals2 rv
  obtain ⟨t1, rfl⟩ := ri
  obtain ⟨t2, rfl⟩ := rj
  exact ⟨t, o, t1, t2, n, rfl, ho, hc, hd⟩
theorem zip_back {pins : List (Addr × Obj)} {σ : L2.St} {H : Hp} {s : Shared} (I : Inv X pins σ H s) : ∀ {zs : List (V × P2)} {us : List Value}, Vals (zs.map (·.1)) us → (∀ z ∈ zs, IsP X.K H z) →
    zs = us.map (fun v => (backV v, kOf s.heap v)) ∧ ∀ u ∈ us, ∃ a, u = Value.ref a ∧ Srt.IsPair s.heap u (kOf s.heap u).1 (kOf s.heap u).2
  | [], us, r, h => by cases r; exact ⟨rfl, fun u hu => absurd hu (by simp)⟩
  | z :: zs, us, r, h => by
    cases r with
    | cons r1 r2 =>
      obtain ⟨x, p⟩ := z
      obtain ⟨t, e, ht⟩ := h (x, p) List.mem_cons_self
      have e : x = V.ref t := e
      subst e
      cases r1
      obtain ⟨h1, h2⟩ := zip_back I r2 fun z hz => h z (List.mem_cons_of_mem _ hz)
      have k := isP_raw I ht
      have k2 := kOf_eq k
      refine ⟨?_, fun u hu => ?_⟩
      · rw [List.map_cons, ← h1, k2]
        rfl
      · rcases List.mem_cons.mp hu with e | hu
        · subst e
          refine ⟨t, rfl, ?_⟩
          rw [k2]
          exact k
        · exact h2 u hu
end
/-! ### the same of a tuple -/
namespace VSt
open SrtO
section
variable {prog : Program} {w : World} {A : Around} {E : Value → Shared → Prop} {s : Shared}
theorem collect_tup {l : Addr} {vs : List Value} {Q : List Value → Shared → Prop} (hl : s.heap.IsTuple l vs.toArray) (hz : vs.length ≤ sizeLine)
    (h : Q vs { s with heap := (s.heap.push (seqObj "list" #[] 0)).update s.heap.objs.size (Obj.mapSeq (· ++ vs.toArray)) }) : wpAny (model prog w) A (collect (.ref l)) Q E s := by
  obtain ⟨o, ho, hc, n, hd⟩ := id hl
  have keep : (s.heap.push (seqObj "list" #[] 0)).get? l = some o := Heap.get?_push_of_some _ ho
  have new : (s.heap.push (seqObj "list" #[] 0)).get? s.heap.objs.size = some (seqObj "list" #[] 0) := Heap.get?_push_size _ rfl
  unfold collect
  refine wpAny_bind (wpAny_runValue (codeAny_builtin entry_proto_collect' ?_))
  show wpAny _ _ (do again (.builtin "list.__iadd__" ⟨[← newList [], .ref l], []⟩)) _ _ s
  refine wpAny_bind (wpAny_newList (wpAny_pure ⟨Code.quiet_builtin _ (by decide +kernel), codeAny_builtin entry_list_iadd' ?_⟩))
  show wpAny _ _ (Builtin.List.listExtendWith (.ref s.heap.objs.size) (.ref l) (.ref s.heap.objs.size)) _ _ { s with heap := s.heap.push (seqObj "list" #[] 0) }
  unfold Builtin.List.listExtendWith
  refine wpAny_bind (wpAny_typeOf (T := "tuple") ⟨o, keep, hc⟩ ?_)
  have ht : (Value.type "tuple" == Value.type "tuple") = true := by rfl
  rw [if_pos (by rw [ht]; simp)]
  refine wpAny_bind (listItems_at keep hd ?_)
  refine wpAny_bind (listItems_at (xs := #[]) (n := 0) new rfl ?_)
  rw [if_neg (by simp)]
  refine wpAny_bind (listUpdate_at (xs := #[]) (n := 0) new rfl ?_ (Nat.zero_le _) (by show (#[] ++ vs.toArray).size ≤ sizeLine + 1; simp only [Array.size_append, List.size_toArray, List.length_nil]; omega))
  refine wpAny_pure ?_
  show wpAny (model prog w) A (do
      let o ← load s.heap.objs.size
      match o.data with
      | .seq xs _ => pure xs.toList
      | _ => unsupported "internal:collect") Q E { s with heap := (s.heap.push (seqObj "list" #[] 0)).update s.heap.objs.size (Obj.mapSeq (· ++ vs.toArray)) }
  refine wpAny_bind (wpAny_load (get?_update_seq new _) ?_)
  show wpAny _ _ (pure ((#[] : Array Value) ++ vs.toArray).toList) Q E _
  rw [show ((#[] : Array Value) ++ vs.toArray).toList = vs by simp]
  exact wpAny_pure h
theorem sorted_tup {l : Addr} {vs : List Value} {k : Value → P2} {Q : Value → Shared → Prop} (hl : s.heap.IsTuple l vs.toArray) (hz : vs.length ≤ sizeLine) (hp : ∀ v ∈ vs, Srt.IsPair s.heap v (k v).1 (k v).2)
    (h : ∀ out : List Value, Srtd (fun v u => lexB (k v) (k u)) out → Stb (fun v u => lexB (k v) (k u)) out vs → Q (.ref (s.heap.objs.size + 1)) { s with heap := sortedAll s.heap vs out.toArray }) :
    wpAny (model prog w) A (call (.builtin "sorted") [.ref l]) Q E s := by
  have O := swo_lex k
  refine Calls.call_function_entry kind_sorted plain_sorted entry_sorted (args_sorted1 _) ?_
  unfold Builtin.«sorted»
  refine wpAny_bind (m := checkCount "sorted" 1 1 _) (wpAny_pure ?_)
  refine wpAny_bind (collect_tup hl hz ?_)
  refine wpAny_bind (wpAny_newList ?_ hz)
  have hsz : ((s.heap.push (seqObj "list" #[] 0)).update s.heap.objs.size (Obj.mapSeq (· ++ vs.toArray))).objs.size = s.heap.objs.size + 1 := by
    rw [Heap.size_update, size_push']
  have hoL : (((s.heap.push (seqObj "list" #[] 0)).update s.heap.objs.size (Obj.mapSeq (· ++ vs.toArray))).push (seqObj "list" vs.toArray 0)).get? (s.heap.objs.size + 1) = some (seqObj "list" vs.toArray 0) := by
    rw [← hsz]; exact Heap.get?_push_size _ rfl
  have keep : ∀ b o, s.heap.get? b = some o → (((s.heap.push (seqObj "list" #[] 0)).update s.heap.objs.size (Obj.mapSeq (· ++ vs.toArray))).push (seqObj "list" vs.toArray 0)).get? b = some o := fun b o q => by
    refine Heap.get?_push_of_some _ ?_
    rw [Heap.get?_update_ne _ _ _ _ (Nat.ne_of_lt (Heap.lt_size q))]
    exact Heap.get?_push_of_some _ q
  show wpAny _ _ _ _ _ { s with heap := ((s.heap.push (seqObj "list" #[] 0)).update s.heap.objs.size (Obj.mapSeq (· ++ vs.toArray))).push (seqObj "list" vs.toArray 0) }
  rw [hsz]
  refine wpAny_bind (wpAny_holding (wpAny_call_entry slot_list_sort ⟨_, hoL, rfl⟩ entry_list_sort (list_sort_ord O hoL hz (fun h2 => ?_) fun out hs hb => ⟨_, rfl, ?_⟩) (args_list_sort _)))
  · refine pairs_sortableO (s := { s with heap := _ }) (by omega) (fun v hm => (hp v hm).keeps fun b o e _ => keep b o e) fun o e => ?_
    have e' : some o = some (seqObj "list" vs.toArray 0) := e.symm.trans hoL
    cases e'
    intro c
    exact absurd (Value.type.inj c) (by decide)
  · exact wpAny_pure ⟨_, rfl, h out hs hb⟩
end
end VSt
section
variable {X : Cx}
theorem srt_out {pins : List (Addr × Obj)} {σ : L2.St} {H : Hp} {s : Shared} {zs : List (V × P2)} {its : List Value} {Q : VK} (I : Inv X pins σ H s) (rv : Vals (zs.map (·.1)) its) (hx : ∀ z ∈ zs, IsP X.K H z) (hz : its.length ≤ sizeLine)
    (q : ∀ (ws : List (V × P2)) p, ws.Perm zs → (ws.map (·.2)).Pairwise (fun x y => lePr x y = true) → H p = none → Q (.ref p) (upd H p (.lst (ws.map (·.1))))) {h' : Heap} {d : Addr} {out : List Value}
    (h1 : SrtO.Srtd (fun v u => SrtO.lexB (kOf s.heap v) (kOf s.heap u)) out) (h2 : SrtO.Stb (fun v u => SrtO.lexB (kOf s.heap v) (kOf s.heap u)) out its) (kp : ∀ b o, s.heap.get? b = some o → h'.get? b = some o) (hd : s.heap.objs.size ≤ d)
    (hn : ∃ n, h'.get? d = some (seqObj "list" out.toArray n)) : ∃ x H1, Inv X pins σ H1 { s with heap := h' } ∧ RelV x (.ref d) ∧ Q x H1 := by
  obtain ⟨e1, e2⟩ := zip_back I rv hx
  have h3 : ∀ u ∈ out, ∃ a, u = Value.ref a := fun u hu => let ⟨b, e, _⟩ := e2 u (h2.perm.mem_iff.mp hu); ⟨b, e⟩
  obtain ⟨n, hn⟩ := hn
  have hp : (out.map (fun v => (backV v, kOf s.heap v))).Perm zs := by
    rw [e1]
    exact h2.perm.map _
  have hm : (out.map (fun v => (backV v, kOf s.heap v))).map (·.1) = out.map backV := by
    rw [List.map_map]
    rfl
  have hq := q (out.map (fun v => (backV v, kOf s.heap v))) d hp ?_ (I.hok.fresh hd)
  · rw [hm] at hq
    refine ⟨.ref d, upd H d (.lst (out.map backV)), I.laid (t' := s.toks) kp hd ⟨?_, out, n, vals_back h3, hn⟩, rfl, hq⟩
    rw [List.length_map, h2.perm.length_eq]
    exact hz
  · rw [List.map_map]
    refine List.pairwise_map.mpr (List.Pairwise.imp (fun {u v} huv => ?_) h1)
    show lePr _ _ = true
    unfold lePr
    rw [Bool.not_eq_true']
    exact huv
theorem cr_srtP : CallR X (.builtin "sorted") (rSrtP X.K) := by
  intro pins s σ H vs us Q I r h
  obtain ⟨a, zs, rfl, hs, hx, q⟩ := h
  obtain ⟨u, rfl, ru⟩ := vals1 r
  obtain rfl : u = Value.ref a := ru
  rcases hs with hs | hs
  · obtain ⟨its, rv, hl, hz⟩ := I.list hs
    have hz : its.length ≤ sizeLine := by rw [← vals_zip rv]; exact hz
    have e2 := (zip_back I rv hx).2
    exact SrtO.sorted_pairsO (k := kOf s.heap) hl.isList hz (fun v hv => (e2 v hv).choose_spec.2) fun h' d out h1 h2 kp hd hn => srt_out I rv hx hz q h1 h2 kp hd hn
  · obtain ⟨its, rv, hl, hz⟩ := I.tuple hs
    have hz : its.length ≤ sizeLine := by rw [← vals_zip rv]; exact hz
    have e2 := (zip_back I rv hx).2
    exact VSt.sorted_tup (k := kOf s.heap) hl hz (fun v hv => (e2 v hv).choose_spec.2) fun out h1 h2 => srt_out I rv hx hz q h1 h2 (fun _ _ e => PyProof.Rows.sortedAll_old e) (Nat.le_succ _) (PyProof.Rows.sortedAll_at s.heap its out.toArray)
end
/-! ### on data -/
def pOf : List D → Option (List P2)
  | [] => some []
  | .tuple [.int a, .int b] :: r => (pOf r).map ((a, b) :: ·)
  | _ => none
def insP (p : P2) : List P2 → List P2
  | [] => [p]
  | q :: r => if lePr p q = true then p :: q :: r else q :: insP p r
def isrt : List P2 → List P2
  | [] => []
  | p :: r => insP p (isrt r)
theorem lePr_iff {p q : P2} : lePr p q = true ↔ p.1 < q.1 ∨ (p.1 = q.1 ∧ p.2 ≤ q.2) := by
  unfold lePr
  rw [Bool.not_eq_true', SrtO.lexB_no]
  omega
theorem insP_perm (p : P2) : ∀ l, (insP p l).Perm (p :: l)
  | [] => List.Perm.refl _
  | q :: r => by
    unfold insP
    split
    · exact List.Perm.refl _
    · exact ((insP_perm p r).cons q).trans (List.Perm.swap p q r)
theorem isrt_perm : ∀ l, (isrt l).Perm l
  | [] => List.Perm.refl _
  | p :: r => (insP_perm p (isrt r)).trans ((isrt_perm r).cons p)
abbrev Sd (l : List P2) : Prop := l.Pairwise fun x y => lePr x y = true
theorem insP_sd (p : P2) : ∀ {l}, Sd l → Sd (insP p l)
  | [], _ => by unfold insP; exact List.pairwise_singleton _ _
  | q :: r, h => by
    unfold insP
    have h' := List.pairwise_cons.mp h
    split
    · rename_i c
      refine List.pairwise_cons.mpr ⟨fun z hz => ?_, h⟩
      rcases List.mem_cons.mp hz with e | hz
      · rw [e]; exact c
      · have h2 := h'.1 z hz
        rw [lePr_iff] at c h2 ⊢
        omega
    · rename_i c
      refine List.pairwise_cons.mpr ⟨fun z hz => ?_, insP_sd p h'.2⟩
      rcases List.mem_cons.mp ((insP_perm p r).mem_iff.mp hz) with e | hz
      · rw [e]
        rw [lePr_iff] at c ⊢
        omega
      · exact h'.1 z hz
theorem isrt_sd : ∀ l, Sd (isrt l)
  | [] => List.Pairwise.nil
  | p :: r => insP_sd p (isrt_sd r)
theorem sd_uniq : ∀ {l m : List P2}, Sd l → Sd m → l.Perm m → l = m
  | [], m, _, _, h => (List.Perm.eq_nil h.symm).symm
  | x :: l, [], _, _, h => absurd h.length_eq (by simp)
  | x :: l, y :: m, hl, hm, h => by
    have a := List.pairwise_cons.mp hl
    have b := List.pairwise_cons.mp hm
    have e : x = y := by
      rcases List.mem_cons.mp (h.mem_iff.mp (List.mem_cons_self (a := x) (l := l))) with e | hx
      · exact e
      · rcases List.mem_cons.mp (h.mem_iff.mpr (List.mem_cons_self (a := y) (l := m))) with e | hy
        · exact e.symm
        · have c1 := lePr_iff.mp (a.1 y hy)
          have c2 := lePr_iff.mp (b.1 x hx)
          exact Prod.ext (by omega) (by omega)
    subst e
    rw [sd_uniq a.2 b.2 h.cons_inv]
def srtO (ds : List D) : Option Rs := (pOf ds).map fun ps => .fr ((isrt ps).map pD)
def sortedD (ds : List D) : Option Rs := match ds with
  | [.list xs] => srtO xs
  | [.tuple xs] => srtO xs
  | _ => none
section
variable {K : PySem.W.Frag}
theorem pOf_zip {R : Hp} : ∀ {ds : List D} {ps : List P2} {vs : List V}, pOf ds = some ps → DpAll K R vs ds → ∃ zs : List (V × P2), zs.map (·.1) = vs ∧ zs.map (·.2) = ps ∧ ∀ z ∈ zs, IsP K R z ∧ Dp K R z.1 (pD z.2)
  | [], ps, vs, e, h => by
    cases h
    cases e
    exact ⟨[], rfl, rfl, fun z hz => absurd hz (by simp)⟩
  | d :: ds, ps, vs, e, h => by
    unfold pOf at e
    split at e
    · rename_i heq; cases heq
    · rename_i a b r heq
      cases heq
      cases er : pOf ds with
      | none => rw [er] at e; cases e
      | some qs =>
        rw [er] at e
        cases e
        cases h with
        | cons h1 h2 =>
          rename_i v vs'
          obtain ⟨zs, z1, z2, z3⟩ := pOf_zip er h2
          refine ⟨(v, (a, b)) :: zs, by rw [List.map_cons, z1], by rw [List.map_cons, z2], fun z hz => ?_⟩
          rcases List.mem_cons.mp hz with e | hz
          · subst e
            refine ⟨?_, h1⟩
            cases h1 with
            | tup hs ha =>
              cases ha with
              | cons i1 i2 =>
                cases i2 with
                | cons i3 i4 =>
                  cases i4; cases i1; cases i3
                  exact ⟨_, rfl, hs⟩
          · exact z3 z hz
    · cases e
theorem srt_call {R H : Hp} {a : Addr} {vs : List V} {xs : List D} {z : Rs} {Q : VK} (m : ∀ b o, R b = some o → H b = some o) (hs : SqL K H a vs ∨ SqT K H a vs) (hd : DpAll K R vs xs) (e : srtO xs = some z) (o : Out K R H Q z) : rSrtP K [.ref a] H Q := by
  unfold srtO at e
  cases ep : pOf xs with
  | none => rw [ep] at e; cases e
  | some ps =>
    rw [ep] at e
    cases e
    obtain ⟨zs, z1, z2, z3⟩ := pOf_zip ep hd
    refine ⟨a, zs, rfl, by rw [z1]; exact hs, fun z hz => ?_, fun ws p hp hw hn => ?_⟩
    · obtain ⟨t, e1, e2⟩ := (z3 z hz).1
      exact ⟨t, e1, sqT_mono m e2⟩
    · have eq : ws.map (·.2) = isrt ps := sd_uniq hw (isrt_sd ps) ((hp.map (·.2)).trans (by rw [z2]; exact (isrt_perm ps).symm))
      refine o p _ hn ?_
      rw [← eq]
      have all : ∀ z ∈ ws, Dp K R z.1 (pD z.2) := fun z hz => (z3 z (hp.mem_iff.mp hz)).2
      clear eq hp hw
      induction ws with
      | nil => exact .nil
      | cons z r ih => exact .cons (all z List.mem_cons_self) (ih fun y hy => all y (List.mem_cons_of_mem _ hy))
theorem cv_sorted : CallV K (rSrtP K) sortedD := by
  intro R H vs ds z Q m hv q o
  unfold sortedD at q
  split at q
  · obtain ⟨v, rfl, a, ws, rfl, h1, d1⟩ := vrs1 hv
    exact srt_call m (.inl h1) d1 q o
  · obtain ⟨v, rfl, h⟩ := vrs1 hv
    cases h with
    | tup h1 d1 => exact srt_call m (.inr (sqT_mono m h1)) d1 q o
  · cases q
end
/-! ### a list times an int, whatever list -/
namespace VSm
open PySem.Builtin.List
theorem mul_at (l : Addr) (items : Array Value) (n : Nat) (d : Option Addr) (sl : Array (Option Value)) (x : Int) (u : Tok) (hc0 : ¬(!Builtin.List.listFitsIndex x) = true) (hc1 : ¬items.size * x.toNat > (2 ^ 63 - 1) / 8)
    (hc2 : ¬Builtin.List.listTooLong (items.size * x.toNat) = true) :
    Meets (Builtin.«list.__mul__» ⟨[.ref l, .int x u], []⟩) (fun _ R s => s.heap.get? l = some { cls := .type "list", dict := d, data := .seq items n, slots := sl } ∧
      R (.ok (.ret (Value.ref s.heap.objs.size))) { s with heap := s.heap.push { cls := Value.type "list", data := Data.seq (List.foldl (fun x1 x2 => x1 ++ x2) #[] (List.replicate (if items.isEmpty = true then 0 else x.toNat) items)) }, toks := s.toks }) :=
  .of_wp fun prog w A R s h => by
    obtain ⟨hp, g, dd, tk, os⟩ := s
    obtain ⟨hl, h⟩ := h
    have hsz := AutoListH.joined_fits hc2
    wp_walk
    refine wpAny_ite_false (decide_eq_false (Nat.not_lt.mpr hsz)) ?_
    wp_walk
    exact ⟨_, rfl, h⟩
theorem rmul_at (a : Int) (t : Tok) (l : Addr) (items : Array Value) (n : Nat) (d : Option Addr) (sl : Array (Option Value)) :
    Meets (Builtin.«int.__rmul__» ⟨[.int a t, .ref l], []⟩) (fun _ R s => s.heap.get? l = some { cls := .type "list", dict := d, data := .seq items n, slots := sl } ∧ R (.ok (.ret Value.notImplemented)) s) :=
  .of_wp fun prog w A R s h => by obtain ⟨hp, g, dd, tk, os⟩ := s; obtain ⟨hl, h⟩ := h; wp_walk; exact ⟨_, rfl, h⟩
end VSm
def rMulL (K : PySem.W.Frag) : R2 := fun x y H Q => ∃ a xs k, x = V.ref a ∧ y = V.int k ∧ SqL K H a xs ∧ 0 ≤ k ∧ k < 2 ^ 40 ∧ xs.length * k.toNat ≤ sizeLine ∧ ∀ p, H p = none → Q (.ref p) (upd H p (.lst (List.replicate k.toNat xs).flatten))
theorem op_mulL {X : Cx} : OpR X (binaryOp .Mult) (rMulL X.K) := by
  intro pins s σ H x y v u Q I rx ry h
  obtain ⟨a, xs, k, rfl, rfl, hs, h1, h2, hz, q⟩ := h
  cases rx
  obtain ⟨t, rfl⟩ := ry
  obtain ⟨its, rv, ⟨⟨cls, dd, data, sl⟩, n, ho, hc, hdn, hd⟩, hlen⟩ := I.list hs
  have hc1 : cls = Value.type "list" := hc
  have hd1 : data = Data.seq its.toArray n := hd
  subst hc1 hd1
  have hle : its.length = xs.length := (vals_zip rv).symm
  have hm : its.toArray.size * k.toNat ≤ sizeLine := by rw [List.size_toArray, hle]; exact hz
  have hcap : ¬ its.toArray.size * k.toNat > (2 ^ 63 - 1) / 8 := by
    have : (sizeLine : Nat) ≤ (2 ^ 63 - 1) / 8 := by decide
    omega
  have hfit : ¬ (!Builtin.List.listFitsIndex k) = true := by
    rw [fitsIndex_both (by omega) (by omega)]
    exact Bool.false_ne_true
  have hlong : ¬ Builtin.List.listTooLong (its.toArray.size * k.toNat) = true := by
    rw [notLongL hm]
    exact Bool.false_ne_true
  have hnew : List.foldl (fun x1 x2 => x1 ++ x2) #[] (List.replicate (if its.toArray.isEmpty = true then 0 else k.toNat) its.toArray) = (List.replicate k.toNat its).flatten.toArray := by
    have f0 : ∀ m : Nat, List.foldl (fun x1 x2 => x1 ++ x2) #[] (List.replicate m its.toArray) = (List.replicate m its).flatten.toArray := fun m => by
      have := foldl_rep its m []
      rw [List.nil_append] at this
      exact this
    rw [f0]
    cases its with
    | nil => simp
    | cons a r' => rw [if_neg (by simp)]
  refine wpAny_binaryOp_repeat_ref (T := "list") (U := "int") (by decide) ⟨_, ho, rfl⟩ (fun s' => typeIs_int s' k t) noFill_list_mul F.fills_int_mul F.slot_int_rmul repeat_list F.slot_int_index.lookup
    (call_meets F.slot_int_rmul (typeIs_int s k t) F.entry_int_rmul (F.args_int_rmul_2 _ _) (VSm.rmul_at k t a its.toArray n dd sl)
      ⟨ho, rfl, ⟨_, ho, rfl⟩, call_meets F.slot_list_mul ⟨_, ho, rfl⟩ F.entry_list_mul (F.args_list_mul_2 _ _) (VSm.mul_at a its.toArray n dd sl k t hfit hcap hlong) ⟨ho, ?_⟩⟩)
  rw [hnew]
  refine ⟨.ref s.heap.objs.size, upd H s.heap.objs.size (.lst (List.replicate k.toNat xs).flatten), I.laid (t' := s.toks) (fun b o e => Heap.get?_push_of_some _ e) (Nat.le_refl _) ⟨?_, _, 0, rv.rep k.toNat, Heap.get?_push_size _ rfl⟩, rfl, q _ (I.hok.fresh (Nat.le_refl _))⟩
  rw [PyProof.Rows.lm_len_rep_flat, Nat.mul_comm]
  exact hz
def mulLD (d e : D) : Option Rs := match d, e with
  | .list xs, .int k => if (decide (0 ≤ k) && decide (k < 1099511627776) && decide (xs.length * k.toNat ≤ sizeLine)) = true then some (.fr (List.replicate k.toNat xs).flatten) else none
  | _, _ => none
theorem dpAll_rep {K : PySem.W.Frag} {R : Hp} {vs : List V} {ds : List D} (h : DpAll K R vs ds) : ∀ n, DpAll K R (List.replicate n vs).flatten (List.replicate n ds).flatten
  | 0 => .nil
  | n + 1 => by
    rw [List.replicate_succ, List.replicate_succ, List.flatten_cons, List.flatten_cons]
    exact dpAll_app h (dpAll_rep h n)
theorem ov_mulL {K : PySem.W.Frag} : OpV K (rMulL K) mulLD := by
  intro R H v u d e z Q m hv hu q o
  unfold mulLD at q
  split at q
  · split at q
    · rename_i h
      simp only [Bool.and_eq_true, decide_eq_true_eq] at h
      cases Option.some.inj q
      obtain ⟨a, ws, rfl, h1, d1⟩ := hv
      cases hu
      refine ⟨a, ws, _, rfl, rfl, h1, h.1.1, by have := h.1.2; omega, by rw [dpAll_len d1]; exact h.2, fun p hp => o p _ hp (dpAll_rep d1 _)⟩
    · cases q
  · cases q
/-! ### tuples of ints by <= -/
def iOf : List D → Option (List Int)
  | [] => some []
  | .int a :: r => (iOf r).map (a :: ·)
  | _ => none
theorem iOf_vs {K : PySem.W.Frag} {R : Hp} : ∀ {ds : List D} {ns : List Int} {vs : List V}, iOf ds = some ns → DpAll K R vs ds → vs = ns.map V.int
  | [], ns, vs, e, h => by cases h; cases e; rfl
  | d :: ds, ns, vs, e, h => by
    unfold iOf at e
    split at e
    · rename_i heq; cases heq
    · rename_i a r heq
      cases heq
      cases er : iOf ds with
      | none => rw [er] at e; cases e
      | some qs =>
        rw [er] at e
        cases e
        cases h with
        | cons h1 h2 =>
          cases h1
          rw [iOf_vs er h2]
          rfl
    · cases e
def lexI (ns ms : List Int) : Bool := Ob.lexAt (fun j => decide (ns.getD j 0 = ms.getD j 0)) (fun j => decide (ns.getD j 0 ≤ ms.getD j 0)) (decide (ns.length ≤ ms.length)) 0 (min ns.length ms.length)
def leTD (d e : D) : Option Rs := match d, e with
  | .tuple xs, .tuple ys => match iOf xs, iOf ys with
    | some ns, some ms => some (.im (.bool (lexI ns ms)))
    | _, _ => none
  | _, _ => none
theorem ov_leT {K : PySem.W.Frag} : OpV K (rLeT K) leTD := by
  intro R H v u d e z Q m hv hu q o
  unfold leTD at q
  split at q
  · split at q
    · rename_i ns ms e1 e2
      cases Option.some.inj q
      have hv : Dp K R v (.tuple _) := hv
      have hu : Dp K R u (.tuple _) := hu
      cases hv with
      | tup h1 d1 =>
        cases hu with
        | tup h2 d2 =>
          have i1 := iOf_vs e1 d1
          have i2 := iOf_vs e2 d2
          subst i1 i2
          exact ⟨_, _, ns, ms, rfl, rfl, sqT_mono m h1, sqT_mono m h2, o _ R H (.refl m) (.bl _)⟩
    · cases q
  · cases q
/-! ### xs.pop(i) -/
def popAtD : List D → List D → Option (D × List D) := fun xs ds => match ds with
  | [.int i] => if (decide (-9223372036854775808 ≤ i) && decide (i < 9223372036854775808)) = true then match seqIndex? i xs.length with
    | some k => match xs[k]? with
      | some d => some (d, xs.eraseIdx k)
      | none => none
    | none => none else none
  | _ => none
theorem mv_popAt {K : PySem.W.Frag} : MutV K rPopAt popAtD := by
  intro R H a vs us xs ds d ys Q m ha hd hu e q
  unfold popAtD at e
  split at e
  · rename_i i
    split at e
    · rename_i hb
      simp only [Bool.and_eq_true, decide_eq_true_eq] at hb
      split at e
      · rename_i k hk
        split at e
        · rename_i d' h1
          cases Option.some.inj e
          cases hu with
          | cons g1 g2 =>
            cases g2
            cases g1
            obtain ⟨v, e1, hv⟩ := dpAll_get hd h1
            exact ⟨a, vs, i, k, v, rfl, rfl, ha, hb.1, hb.2, by rw [dpAll_len hd]; exact hk, e1, q v _ (dpAll_erase k hd) hv⟩
        · cases e
      · cases e
    · cases e
  · cases e
/-! ### len(set(xs)), ints -/
def dcount (ns : List Int) : Nat := (PyProof.Rows.firstMet (fun i => ns.getD i 0) ns.length).length
def rLS (K : PySem.W.Frag) : V → Hp → VK → Prop := fun x H Q => ∃ (l : Addr) (ns : List Int), x = V.ref l ∧ SqL K H l (ns.map V.int) ∧ ns.length < 64 ∧ Q (.int (dcount ns : Nat)) H
def tLenSet (K : PySem.W.Frag) (ta : TE) : TE := fun σ H Q => ta σ H fun x H1 => rLS K x H1 Q
theorem pe_lenSet {X : Cx} {a : Expr} {ta : TE} {p p2 q pos : Pos} (K : PySem.W.Frag) (hK : X.K = K) (hc : X.calm = true) (hg : Gl X "len") (hm : X.mg "len" = none) (hg2 : Gl X "set") (hm2 : X.mg "set" = none) (ha : PE X a ta)
    (na : starEach [a] X.env = (false, eval a X.env) :: starEach [] X.env := by rfl) : PE X (.Call (.Name "len" p) [.Call (.Name "set" p2) [a] [] q] [] pos) (tLenSet K ta) := by
  subst hK
  refine ⟨fun pins s σ H Q I h => ?_⟩
  refine Call_ (ld_blt I hg hm PySem.boot_len ?_)
  refine PyProof.Rows.callWith_builtin1 (PyProof.Rows.args_cons ?_ rfl) rfl rfl
  refine Call_ (ld_blt I hg2 hm2 PyProof.Rows.boot_set ?_)
  refine PyProof.Rows.callWith_type1 (PyProof.Rows.args_cons (thn (ha.run pins s σ H _ I h) fun v s1 ⟨x, H1, I1, r1, q1⟩ => PyProof.Rows.args_nil ?_) na) na rfl
  obtain ⟨l, ns, rfl, hq, h1, q1⟩ := q1
  cases r1
  obtain ⟨its, r, pl, hz⟩ := I1.list hq
  have hl : its.toArray.size = ns.length := by rw [List.size_toArray, ← r.length, List.length_map]
  refine call_set_list (I1.ok.hd hc) pl.isList (ns := ns) (by simpa using r.ints) (by unfold scanBound; omega) fun h' tk hS hk => ?_
  rw [hl] at hS
  have hle := PyProof.Rows.firstMet_length_le (fun i => ns.getD i 0) ns.length
  refine PyProof.Rows.args_nil ?_
  obtain ⟨o, es, ep, t, ho, hex, hd, _, _, _, hf, hn⟩ := hS
  have I2 : Inv X pins σ H1 { s1 with heap := h', toks := tk } := I1.kept fun b o e => hk b o (Heap.lt_size e) e
  refine call_len_set ho hex hd hf (by rw [hn] <;> omega) ⟨.int (dcount ns : Nat), H1, I2.tok _, ⟨_, by rw [hn] <;> rfl⟩, q1⟩
def lenSetD (d : D) : Option Rs := match d with
  | .list xs => match iOf xs with
    | some ns => if ns.length < 64 then some (.im (.int (dcount ns : Nat))) else none
    | none => none
  | _ => none
theorem sem_lenSet {p : Pm} {EX : WX} {ta : TE} {Fa : Rho → Ou Rs} (ha : SemE p EX ta Fa) : SemE p EX (tLenSet p.K ta) (unF lenSetD Fa) := sem_un (r := rLS p.K) (ta := ta) (fun R H v d z Q m hv e o => by
  unfold lenSetD at e
  split at e
  · split at e
    · rename_i ns en
      split at e
      · rename_i hn
        cases Option.some.inj e
        obtain ⟨a, ws, rfl, h1, d1⟩ := hv
        have i1 := iOf_vs en d1
        subst i1
        exact ⟨a, ns, rfl, h1, hn, o _ R H (.refl m) (.int _)⟩
      · cases e
    · cases e
  · cases e) ha
/-! ### a < b < c < d, ints -/
abbrev rLt : R2 := rI0 fun i j => V.bl (decide (i < j))
def tChn (ta tb tc td : TE) : TT := fun σ H Q => ta σ H fun x H1 => tb σ H1 fun y H2 => rLt x y H2 fun z H3 => ∃ k, z = .bl k ∧ if k = true then tc σ H3 fun x2 H4 => rLt y x2 H4 fun z2 H5 => ∃ k2, z2 = .bl k2 ∧
  (if k2 = true then td σ H5 fun x3 H6 => rLt x2 x3 H6 fun z3 H7 => ∃ k3, z3 = .bl k3 ∧ Q k3 H7 else Q false H5) else Q false H3
theorem pt_chn {X : Cx} {a b c d : Expr} {ta tb tc td : TE} {pos : Pos} (ha : PE X a ta) (hb : PE X b tb) (hc : PE X c tc) (hd : PE X d td)
    (hm : lastMarks [.Lt, .Lt, .Lt] [b, c, d] = false := by with_unfolding_all rfl) : PT X (.Compare a [.Lt, .Lt, .Lt] [b, c, d] pos) (tChn ta tb tc td) := by
  refine ⟨fun pins s σ H Q I h => ?_⟩
  refine isTrue_chain (thn (ha.run pins s σ H _ I h) fun v s1 ⟨x, H1, I1, r1, q1⟩ => test_link (thn (hb.run pins s1 σ H1 _ I1 q1) fun u s2 ⟨y, H2, I2, r2, q2⟩ =>
    thn (op_lt pins s2 σ H2 x y v u _ I2 r1 r2 q2) fun e1 s3 ⟨z, H3, I3, r3, k, e, q3⟩ => ?_)) hm
  subst e
  cases r3
  refine wpAny_truthy_bool ?_
  cases k with
  | false => exact ite_ff ⟨H3, I3, q3⟩
  | true =>
    refine ite_tt (test_link (thn (hc.run pins s3 σ H3 _ I3 q3) fun u2 s4 ⟨x2, H4, I4, r4, q4⟩ => thn (op_lt pins s4 σ H4 y x2 u u2 _ I4 r2 r4 q4) fun e2 s5 ⟨z2, H5, I5, r5, k2, e2, q5⟩ => ?_))
    subst e2
    cases r5
    refine wpAny_truthy_bool ?_
    cases k2 with
    | false => exact ite_ff ⟨H5, I5, q5⟩
    | true =>
      refine ite_tt (test_last (thn (hd.run pins s5 σ H5 _ I5 q5) fun u3 s6 ⟨x3, H6, I6, r6, q6⟩ => thn (op_lt pins s6 σ H6 x2 x3 u2 u3 _ I6 r4 r6 q6) fun e3 s7 ⟨z3, H7, I7, r7, k3, e3, q7⟩ => ?_))
      subst e3
      cases r7
      exact wpAny_truthy_bool ⟨H7, I7, q7⟩
def chnF (Fa Fb Fc Fd : Rho → Ou Rs) : Rho → Ou Bool := fun ρ => bd (bd (frz (Fa ρ)) dat) fun d1 ρ1 => bd (bd (frz (Fb ρ1)) dat) fun d2 ρ2 => match d1, d2 with
  | .int i, .int j => if i < j then bd (bd (frz (Fc ρ2)) dat) fun d3 ρ3 => match d3 with
    | .int k => if j < k then bd (bd (frz (Fd ρ3)) dat) fun d4 ρ4 => match d4 with
      | .int l => .ok (decide (k < l)) ρ4
      | _ => .bad else .ok false ρ3
    | _ => .bad else .ok false ρ2
  | _, _ => .bad
theorem sem_chn {p : Pm} {EX : WX} {ta tb tc td : TE} {Fa Fb Fc Fd : Rho → Ou Rs} (ha : SemE p EX ta Fa) (hb : SemE p EX tb Fb) (hc : SemE p EX tc Fc) (hd : SemE p EX td Fd) : SemT p EX (tChn ta tb tc td) (chnF Fa Fb Fc Fd) := by
  intro R H O σ ρ Q S g
  refine ha.op.dat.use S g fun R1 H1 O1 ρ1 x d1 S1 T1 v1 g1 => ?_
  refine hb.op.dat.use S1 g1 fun R2 H2 O2 ρ2 y d2 S2 T2 v2 g2 => ?_
  split at g2
  · rename_i i j
    cases v1
    cases v2
    split at g2
    · rename_i hij
      refine ⟨i, j, rfl, rfl, true, (congrArg V.bl (decide_eq_true hij) : _), ?_⟩
      rw [if_pos rfl]
      refine hc.op.dat.use S2 g2 fun R3 H3 O3 ρ3 x2 d3 S3 T3 v3 g3 => ?_
      split at g3
      · rename_i k
        cases v3
        split at g3
        · rename_i hjk
          refine ⟨j, k, rfl, rfl, true, (congrArg V.bl (decide_eq_true hjk) : _), ?_⟩
          rw [if_pos rfl]
          refine hd.op.dat.use S3 g3 fun R4 H4 O4 ρ4 x3 d4 S4 T4 v4 g4 => ?_
          split at g4
          · rename_i l
            cases v4
            exact ⟨k, l, rfl, rfl, _, rfl, g4 _ _ _ _ S4 .refl rfl⟩
          · exact g4.elim
        · rename_i hjk
          refine ⟨j, k, rfl, rfl, false, (congrArg V.bl (decide_eq_false hjk) : _), ?_⟩
          rw [if_neg Bool.false_ne_true]
          exact g3 _ _ _ _ S3 .refl rfl
      · exact g3.elim
    · rename_i hij
      refine ⟨i, j, rfl, rfl, false, (congrArg V.bl (decide_eq_false hij) : _), ?_⟩
      rw [if_neg Bool.false_ne_true]
      exact g2 _ _ _ _ S2 .refl rfl
  · exact g2.elim
/-! ### an int in a tuple of ints -/
theorem inV_ints (i : Int) : ∀ ns : List Int, inV (.int i) (ns.map V.int) = decide (i ∈ ns)
  | [] => rfl
  | n :: ns => by
    have ih := inV_ints i ns
    unfold inV at ih ⊢
    rw [List.map_cons, List.any_cons, ih]
    show (n == i || _) = _
    by_cases h : n = i
    · subst h; simp
    · have h' : ¬ i = n := fun e => h e.symm
      simp [h, h']
def inTD (d e : D) : Option Rs := match d, e with
  | .int i, .tuple xs => match iOf xs with
    | some ns => some (.im (.bool (decide (i ∈ ns))))
    | none => none
  | _, _ => none
theorem ov_inT {K : PySem.W.Frag} : OpV K (rIn K false) inTD := by
  intro R H v u d e z Q m hv hu q o
  unfold inTD at q
  split at q
  · rename_i i xs
    split at q
    · rename_i ns en
      cases Option.some.inj q
      have hv : Dp K R v (.int i) := hv
      have hu : Dp K R u (.tuple xs) := hu
      cases hv
      cases hu with
      | tup h2 d2 =>
        have i2 := iOf_vs en d2
        subst i2
        refine ⟨_, _, rfl, .inr (sqT_mono m h2), rfl, ?_, ?_⟩
        · rw [List.all_map]; exact List.all_eq_true.mpr fun _ _ => rfl
        · rw [if_neg Bool.false_ne_true, inV_ints]; exact o _ R H (.refl m) (.bl _)
    · cases q
  · cases q
/-! ### a list that is lent: handed to others in a test, and changed behind it -/
def lend1 : Sl → Sl
  | .ow _ _ => .un
  | y => y
def lendR (i : Nat) (ds : List D) (ρ : Rho) : Rho := (ρ.map lend1).set i (.im (.list ds))
def lendF (i : Nat) (F : Rho → Ou Bool) : Rho → Ou Bool := fun ρ => match ρ[i]? with
  | some (.ow _ ds) => match F (lendR i ds ρ) with
    | .ok b _ => .ok b ρ
    | _ => .bad
  | _ => .bad
theorem sem_lend {p : Pm} {EX : WX} {t : TT} {F : Rho → Ou Bool} (i : Nat) (h : SemT p EX t F) : SemT p EX t (lendF i F) := by
  intro R H O σ ρ Q S g
  unfold lendF at g
  split at g
  · rename_i bb ds e
    obtain ⟨a, vs, e1, e2, e3, e4⟩ := S.ow i bb ds e
    have hi : i < ρ.length := by
      rcases Nat.lt_or_ge i ρ.length with z | z
      · exact z
      · rw [List.getElem?_eq_none z] at e; cases e
    have Ra : ∀ b o, R b = some o → (upd R a (.lst vs)) b = some o := fun b o q => by
      by_cases z : b = a
      · subst z
        rw [S.dis b e2] at q
        cases q
      · rw [upd_ne z]; exact q
    have at' : ∀ (j : Nat) y, (lendR i ds ρ)[j]? = some y → (j = i ∧ y = .im (.list ds)) ∨ (j ≠ i ∧ ∃ z, ρ[j]? = some z ∧ y = lend1 z) := fun j y q => by
      unfold lendR at q
      by_cases z : j = i
      · subst z
        rw [List.getElem?_set_self (by rw [List.length_map]; exact hi)] at q
        exact .inl ⟨rfl, (Option.some.inj q).symm⟩
      · rw [List.getElem?_set_ne (fun e => z e.symm), List.getElem?_map] at q
        obtain ⟨u, h1, h2⟩ := Option.map_eq_some_iff.mp q
        exact .inr ⟨z, u, h1, h2.symm⟩
    have S1 : Stt p (upd R a (.lst vs)) H (fun _ => False) σ (lendR i ds ρ) := by
      refine ⟨fun b o q => ?_, fun b f => f.elim, fun b f => f.elim, ?_, fun j d q => ?_, fun j c es q => ?_, fun j y v q f => ?_, fun j k c b es fs u q => ?_, fun j tag d q => ?_⟩
      · by_cases z : b = a
        · subst z
          rw [upd_same] at q
          cases q
          exact e3
        · rw [upd_ne z] at q
          exact S.sub b o q
      · unfold lendR
        rw [List.length_set, List.length_map]
        exact S.len
      · rcases at' j _ q with ⟨rfl, y⟩ | ⟨_, y, h1, h2⟩
        · cases y
          exact ⟨_, e1, .lst (.inl (.inl upd_same)) (dpAll_mono Ra _ _ e4)⟩
        · cases y with
          | im d' =>
            cases h2
            obtain ⟨v, k1, k2⟩ := S.im j _ h1
            exact ⟨v, k1, dp_mono Ra _ _ k2⟩
          | _ => cases h2
      · rcases at' j _ q with ⟨_, y⟩ | ⟨_, y, h1, h2⟩
        · cases y
        · cases y <;> cases h2
      · rcases at' j _ q with ⟨_, y⟩ | ⟨_, y, h1, h2⟩
        · subst y; cases f
        · cases y with
          | fv k => subst h2; exact S.pn j _ v h1 f
          | _ => subst h2; cases f
      · rcases at' j _ q with ⟨_, y⟩ | ⟨_, y, h1, h2⟩
        · cases y
        · cases y <;> cases h2
      · rcases at' j _ q with ⟨_, y⟩ | ⟨_, y, h1, h2⟩
        · cases y
        · cases y with
          | xn tag' d' =>
            cases h2
            obtain ⟨k1, k2, dd, v, k3, k4, k5, k6⟩ := S.xn j _ _ h1
            exact ⟨k1, k2, dd, v, k3, fun f => f, k5, dp_mono Ra _ _ k6⟩
          | _ => cases h2
    refine h _ H _ σ _ Q S1 ?_
    cases q : F (lendR i ds ρ) with
    | bad => rw [q] at g; exact g.elim
    | ex t d r => rw [q] at g; exact g.elim
    | ok c r =>
      rw [q] at g
      intro b R' H' O' S' T' rel
      have keep : ∀ b o, H b = some o → H' b = some o := fun b o z => T'.h b o z fun f => f
      refine g b R H' O ⟨fun b o z => keep b o (S.sub b o z), S.dis, fun b z => T'.k b (S.al b z), S.len, S.im, fun j c ds z => ?_, S.pn, S.inj, fun j tag d z => ?_⟩ ⟨fun _ _ z => z, fun b o z _ => keep b o z, fun _ z => .inl z, fun _ z => .inl z, T'.k⟩ rel
      · obtain ⟨u, ws, k1, k2, k3, k4⟩ := S.ow j c ds z
        exact ⟨u, ws, k1, k2, keep _ _ k3, k4⟩
      · obtain ⟨k1, k2, dd, v, k3, k4, k5, k6⟩ := S.xn j tag d z
        exact ⟨k1, k2, dd, v, k3, k4, keep _ _ k5, k6⟩
  · exact g.elim
end VL

theorem L2.Room.u {k : Nat} {A : PySem.Around} (r : L2.Room k A) (n : Nat) (h : n ≤ 200 := by decide) : A.units + n < PySem.cLine := by have := r.un; omega
namespace VL
open PySem PySem.Spec PyProof.Rows L2
theorem ne_nil {K : PySem.W.Frag} {xc : Nat → Addr} {C : Addr} : ∀ u ∈ ([] : List Nat), PySem.W.exmOne K (.ref (xc u)) (.ref C) = some false := fun _ h => nomatch h
theorem ne_cons {K : PySem.W.Frag} {xc : Nat → Addr} {C : Addr} {t : Nat} {us : List Nat} (h : PySem.W.exmOne K (.ref (xc t)) (.ref C) = some false) (r : ∀ u ∈ us, PySem.W.exmOne K (.ref (xc u)) (.ref C) = some false) :
    ∀ u ∈ t :: us, PySem.W.exmOne K (.ref (xc u)) (.ref C) = some false := fun u hu => (List.mem_cons.mp hu).elim (fun e => by subst e; exact h) (r u)
def yesF : Rho → Ou Bool := fun ρ => .ok true ρ
theorem sem_yes {p : Pm} {EX : WX} : SemT p EX tYes yesF := fun R H O σ ρ Q S g => g true R H O S .refl rfl
theorem sem_tupleOf {p : Pm} {EX : WX} {ta : TE} {Fa : Rho → Ou Rs} (ha : SemE p EX ta Fa) : SemE p EX (tThen ta (kTup p.K)) (unF tupleD Fa) := sem_un (r := kTup p.K) (ta := ta) uv_tuple ha
theorem sem_neg {p : Pm} {EX : WX} {ta : TE} {Fa : Rho → Ou Rs} (ha : SemE p EX ta Fa) : SemE p EX (tUn (rU fun i => V.int (-i)) ta) (unF negD Fa) := sem_un (r := rU fun i => V.int (-i)) (ta := ta) uv_neg ha
theorem sem_isNO {p : Pm} {EX : WX} {t : TE} {F : Rho → Ou Rs} (h : SemE p EX t F) : SemE p EX (tOp (fun x y H Q => y = V.non ∧ Q (.bl (decide (x = V.non))) H) t (tC V.non)) (unF (isnD false) F) :=
  sem_un (r := fun x H Q => V.non = V.non ∧ Q (.bl (decide (x = .non))) H) (ta := t) (fun R H v d z Q m hv e o => by
    cases Option.some.inj e
    rw [non_iff hv]
    exact ⟨rfl, o _ R H (.refl m) (.bl _)⟩) h
theorem sem_notNO {p : Pm} {EX : WX} {t : TE} {F : Rho → Ou Rs} (h : SemE p EX t F) : SemE p EX (tOp (fun x y H Q => y = V.non ∧ Q (.bl (!decide (x = V.non))) H) t (tC V.non)) (unF (isnD true) F) :=
  sem_un (r := fun x H Q => V.non = V.non ∧ Q (.bl (!decide (x = .non))) H) (ta := t) (fun R H v d z Q m hv e o => by
    cases Option.some.inj e
    rw [non_iff hv]
    exact ⟨rfl, o _ R H (.refl m) (.bl _)⟩) h
theorem pgn {X : Cx} {pos : Pos} {x : Str} (i : Nat) (nd : X.N.Nodup) (h : X.N[i]? = some x) (l : L2.Loc X.env.scope x) (f : X.fn x = true ∨ X.env.scope.names.lookup x = some .local) : PG X (.Name x pos) (gName i) := pg_name nd h l f
theorem pgc {X : Cx} {e : Expr} {es : List Expr} {t : TG} {u : TGs} (h : PG X e t) (k : PGs X es u) (q : List.map (fun x => x.snd) (assignEach (e :: es) X.env) = assign e X.env :: List.map (fun x => x.snd) (assignEach es X.env)) : PGs X (e :: es) (gCons t u) := pgs_cons h k q
theorem pgt {X : Cx} {pos : Pos} {es : List Expr} {k : Nat} {t : TGs} (K : PySem.W.Frag) (n : Nat) (h : PGs X es t) (c : X.calm = true) (l : (assignEach es X.env).length = n) (f : List.findIdx? (fun x => x.fst) (assignEach es X.env) = none) (e : X.K = K) : PG X (.Tuple es k pos) (gU K n t) := e ▸ pg_u c h l f
/-! the rules whose reading names the written part, that part given -/
section
variable {X : Cx} (K : PySem.W.Frag) (e : X.K = K)
include e
theorem k_add : OpR X (binaryOp .Add) (rAddA K) := e ▸ op_addA
theorem k_eq (h : X.A.units + 64 < cLine) : OpR X (compareOp .Eq) (rEqD K) := e ▸ op_eqD h
theorem k_ne (h : X.A.units + 64 < cLine) : OpR X (compareOp .NotEq) (rNeD K) := e ▸ op_neD h
theorem k_in (h : X.A.units + 65 < cLine) : OpR X (compareOp .In) (rInD K) := e ▸ op_inD h
theorem k_notin (h : X.A.units + 65 < cLine) : OpR X (compareOp .NotIn) (rNotInD K) := e ▸ op_notInD h
theorem k_ix : IxR X (rIx K) := e ▸ ix_seq
theorem k_sl : SlR X (rSlU K) := e ▸ sl_U
theorem k_len : CallR X (.builtin "len") (rLen K) := e ▸ call_lenA
theorem k_list : CallR X (.type "list") (rList K) := e ▸ call_listA
theorem k_max (h : X.calm = true) : CallR X (.builtin "max") (rMax K) := e ▸ cr_max h
theorem k_min (h : X.calm = true) : CallR X (.builtin "min") (rMin K) := e ▸ cr_min h
theorem k_any (h : X.calm = true) : CallR X (.builtin "any") (rAny K) := e ▸ cr_any h
theorem k_all (h : X.calm = true) : CallR X (.builtin "all") (rAll K) := e ▸ cr_all h
theorem k_repr (gd : X.A.guards = some []) (hu : X.A.units + 66 < cLine) : CallR X (.builtin "repr") (rRepr K) := e ▸ call_reprD gd hu
theorem k_isi : CallR X (.builtin "isinstance") (rIsi K) := e ▸ call_isi
theorem k_isiT : CallR X (.builtin "isinstance") (rIsiT K) := e ▸ call_isiT
theorem k_sorted : CallR X (.builtin "sorted") (rSrtP K) := e ▸ cr_srtP
theorem k_inT : OpR X (compareOp .In) (rIn K false) := e ▸ op_in_seq
theorem k_mulL : OpR X (binaryOp .Mult) (rMulL K) := e ▸ op_mulL
theorem k_leT (h : X.A.units < cLine) : OpR X (compareOp .LtE) (rLeT K) := e ▸ op_leT h
theorem k_sq {tg l : Expr} {t : TE} (h : PE X l t) : PI X tg l (iSq K t) := e ▸ pi_sq h
end
theorem k_truth {X : Cx} {a : Expr} {ta : TE} (K : PySem.W.Frag) (e : X.K = K) (h : PE X a ta) (he : ∀ (whole : PySem.Sem Value), PySem.isTrue a X.env whole = do
    let v ← whole
    standAt a.pos
    holding [v] (truthy v)) : PT X a fun σ H Q => ta σ H fun x H' => ∃ k, TruV K x H' k ∧ Q k H' := e ▸ pt_truth h he
theorem k_stp {X : Cx} {e st : Expr} {te : TE} {ts : TO} {p3 pos : Pos} (K : PySem.W.Frag) (hK : X.K = K) (he : PE X e te) (hst : PO X (some st) ts) (hop : ∀ v r, subscripted (.Slice none none (some st) p3) false v r = operate [v, r] (getItem v r)) :
    PE X (.Subscript e (.Slice none none (some st) p3) pos) (tStp K te ts) := hK ▸ pe_stp he hst hop
theorem k_tuple {X : Cx} {a : Expr} {ta : TE} {p pos : Pos} (K : PySem.W.Frag) (hK : X.K = K) (hg : Gl X "tuple") (hm : X.mg "tuple" = none) (h : PE X a ta) (hs : starEach [a] X.env = (false, eval a X.env) :: starEach [] X.env) :
    PE X (.Call (.Name "tuple" p) [a] [] pos) (tThen ta (kTup K)) := hK ▸ pe_tupleOf hg hm h hs
theorem k_enum {X : Cx} {e : Expr} {ta : TA} {p pos tpos : Pos} {elts : List Expr} {kk : Nat} (K : PySem.W.Frag) (hK : X.K = K) (hg : Gl X "enumerate") (hm : X.mg "enumerate" = none) (h : PA X [e] ta) (hs : starEach [e] X.env = [(false, eval e X.env)]) :
    PI X (.Tuple elts kk tpos) (.Call (.Name "enumerate" p) [e] [] pos) (iEnumU K ta) := hK ▸ pi_enumU hg hm h hs
theorem k_cw {X : Cx} (P : Program) (w : World) (K : PySem.W.Frag) (mg : Str → Option Value) (base : Heap) (e1 : X.prog = P) (e2 : X.w = w) (e3 : X.K = K) (e4 : X.mg = mg) (e5 : X.base = base) {lv i : Nat} {E : Sg → XK} {x : Str} {p pos : Pos} {e : Expr} {es : List Expr} {t : TA} (gd : X.A.guards = some []) (hr : Room lv X.A) (hN : X.N[i]? = some x) (hv : Vis X.env.scope x)
    (hx : ∀ σ, PassesAt (L2.CX X.prog X.w) X σ (E σ)) (ha : PA X (e :: es) t) (hd : (x == ("__debug__" : Str)) = false := by decide) (hcd : (x == ("__classdict__" : Str)) = false := by decide)
    (he : starEach (e :: es) X.env = (false, eval e X.env) :: starEach es X.env := by rfl) (hp : (backTo pos (starEach es X.env)).any (·.1) = false := by rfl) :
    PE X (.Call (.Name x p) (e :: es) [] pos) (tCW P w K mg base lv i E t) := by
  subst e1 e2 e3 e4 e5
  exact pe_cw gd hr hN hv hx ha hd hcd he hp
namespace K01
/-! ### the defs of the text -/
def topS (i : Nat) : Stmt := PySem.Challenge.pw_cancelsback_k01_whole_words_struck_in_an.main.body.getD i (.Pass ⟨0, 0, 0, 0⟩)
abbrev s_is_integer : Stmt := topS 5
abbrev N_is_integer : List Str := ["value"]
theorem sc_is_integer : FnScope N_is_integer ["value"] (defScope s_is_integer) := ⟨rfl, rfl, rfl, by decide +kernel, rfl, by decide +kernel, by decide +kernel⟩
abbrev s_is_number : Stmt := topS 6
abbrev N_is_number : List Str := ["value"]
theorem sc_is_number : FnScope N_is_number ["value"] (defScope s_is_number) := ⟨rfl, rfl, rfl, by decide +kernel, rfl, by decide +kernel, by decide +kernel⟩
abbrev s_is_number_below : Stmt := topS 7
abbrev N_is_number_below : List Str := ["value", "limit"]
theorem sc_is_number_below : FnScope N_is_number_below ["value", "limit"] (defScope s_is_number_below) := ⟨rfl, rfl, rfl, by decide +kernel, rfl, by decide +kernel, by decide +kernel⟩
abbrev s_is_sequence : Stmt := topS 8
abbrev N_is_sequence : List Str := ["value"]
theorem sc_is_sequence : FnScope N_is_sequence ["value"] (defScope s_is_sequence) := ⟨rfl, rfl, rfl, by decide +kernel, rfl, by decide +kernel, by decide +kernel⟩
abbrev s_is_row_of : Stmt := topS 9
abbrev N_is_row_of : List Str := ["value", "many"]
theorem sc_is_row_of : FnScope N_is_row_of ["value", "many"] (defScope s_is_row_of) := ⟨rfl, rfl, rfl, by decide +kernel, rfl, by decide +kernel, by decide +kernel⟩
abbrev s_is_tuple_of : Stmt := topS 10
abbrev N_is_tuple_of : List Str := ["value", "many"]
theorem sc_is_tuple_of : FnScope N_is_tuple_of ["value", "many"] (defScope s_is_tuple_of) := ⟨rfl, rfl, rfl, by decide +kernel, rfl, by decide +kernel, by decide +kernel⟩
abbrev s_is_letter : Stmt := topS 11
abbrev N_is_letter : List Str := ["value"]
theorem sc_is_letter : FnScope N_is_letter ["value"] (defScope s_is_letter) := ⟨rfl, rfl, rfl, by decide +kernel, rfl, by decide +kernel, by decide +kernel⟩
abbrev s_text_or_none : Stmt := topS 12
abbrev N_text_or_none : List Str := ["value", "letter"]
theorem sc_text_or_none : FnScope N_text_or_none ["value"] (defScope s_text_or_none) := ⟨rfl, rfl, rfl, by decide +kernel, rfl, by decide +kernel, by decide +kernel⟩
abbrev s_need_text : Stmt := topS 13
abbrev N_need_text : List Str := ["value", "at", "text"]
theorem sc_need_text : FnScope N_need_text ["value", "at"] (defScope s_need_text) := ⟨rfl, rfl, rfl, by decide +kernel, rfl, by decide +kernel, by decide +kernel⟩
abbrev s_is_signed_letter : Stmt := topS 15
abbrev N_is_signed_letter : List Str := ["value"]
theorem sc_is_signed_letter : FnScope N_is_signed_letter ["value"] (defScope s_is_signed_letter) := ⟨rfl, rfl, rfl, by decide +kernel, rfl, by decide +kernel, by decide +kernel⟩
abbrev s_need_word : Stmt := topS 16
abbrev N_need_word : List Str := ["value", "at", "pair"]
theorem sc_need_word : FnScope N_need_word ["value", "at"] (defScope s_need_word) := ⟨rfl, rfl, rfl, by decide +kernel, rfl, by decide +kernel, by decide +kernel⟩
abbrev s_undo_each_other : Stmt := topS 17
abbrev N_undo_each_other : List Str := ["one", "other"]
theorem sc_undo_each_other : FnScope N_undo_each_other ["one", "other"] (defScope s_undo_each_other) := ⟨rfl, rfl, rfl, by decide +kernel, rfl, by decide +kernel, by decide +kernel⟩
abbrev s_struck : Stmt := topS 18
abbrev N_struck : List Str := ["word", "left", "pair"]
theorem sc_struck : FnScope N_struck ["word"] (defScope s_struck) := ⟨rfl, rfl, rfl, by decide +kernel, rfl, by decide +kernel, by decide +kernel⟩
abbrev s_undone : Stmt := topS 19
abbrev N_undone : List Str := ["word", "letter", "sign"]
theorem sc_undone : FnScope N_undone ["word"] (defScope s_undone) := ⟨rfl, rfl, rfl, by decide +kernel, rfl, by decide +kernel, by decide +kernel⟩
abbrev s_strike_out : Stmt := topS 20
abbrev N_strike_out : List Str := ["word"]
theorem sc_strike_out : FnScope N_strike_out ["word"] (defScope s_strike_out) := ⟨rfl, rfl, rfl, by decide +kernel, rfl, by decide +kernel, by decide +kernel⟩
abbrev s_undo_word : Stmt := topS 21
abbrev N_undo_word : List Str := ["word"]
theorem sc_undo_word : FnScope N_undo_word ["word"] (defScope s_undo_word) := ⟨rfl, rfl, rfl, by decide +kernel, rfl, by decide +kernel, by decide +kernel⟩
abbrev s_join_words : Stmt := topS 22
abbrev N_join_words : List Str := ["one", "other", "first"]
theorem sc_join_words : FnScope N_join_words ["one", "other"] (defScope s_join_words) := ⟨rfl, rfl, rfl, by decide +kernel, rfl, by decide +kernel, by decide +kernel⟩
abbrev s_strike_pairs : Stmt := topS 23
abbrev N_strike_pairs : List Str := ["word", "waiting", "pairs", "at", "pair"]
theorem sc_strike_pairs : FnScope N_strike_pairs ["word"] (defScope s_strike_pairs) := ⟨rfl, rfl, rfl, by decide +kernel, rfl, by decide +kernel, by decide +kernel⟩
abbrev s_partners_or_none : Stmt := topS 24
abbrev N_partners_or_none : List Str := ["word", "value", "partners", "before", "pair", "begin", "end"]
theorem sc_partners_or_none : FnScope N_partners_or_none ["word", "value"] (defScope s_partners_or_none) := ⟨rfl, rfl, rfl, by decide +kernel, rfl, by decide +kernel, by decide +kernel⟩
abbrev s_strikes_hold : Stmt := topS 25
abbrev N_strikes_hold : List Str := ["word", "value", "partners", "begin", "end", "between", "left", "at", "pair"]
theorem sc_strikes_hold : FnScope N_strikes_hold ["word", "value"] (defScope s_strikes_hold) := ⟨rfl, rfl, rfl, by decide +kernel, rfl, by decide +kernel, by decide +kernel⟩
abbrev s_word_of : Stmt := topS 27
abbrev N_word_of : List Str := ["text", "letter"]
theorem sc_word_of : FnScope N_word_of ["text"] (defScope s_word_of) := ⟨rfl, rfl, rfl, by decide +kernel, rfl, by decide +kernel, by decide +kernel⟩
abbrev s_text_of : Stmt := topS 28
abbrev N_text_of : List Str := ["word", "_", "sign", "letter"]
theorem sc_text_of : FnScope N_text_of ["word"] (defScope s_text_of) := ⟨rfl, rfl, rfl, by decide +kernel, rfl, by decide +kernel, by decide +kernel⟩
abbrev s_text_word : Stmt := topS 29
abbrev N_text_word : List Str := ["text"]
theorem sc_text_word : FnScope N_text_word ["text"] (defScope s_text_word) := ⟨rfl, rfl, rfl, by decide +kernel, rfl, by decide +kernel, by decide +kernel⟩
abbrev s_word_text : Stmt := topS 30
abbrev N_word_text : List Str := ["word"]
theorem sc_word_text : FnScope N_word_text ["word"] (defScope s_word_text) := ⟨rfl, rfl, rfl, by decide +kernel, rfl, by decide +kernel, by decide +kernel⟩
abbrev s_law_box : Stmt := topS 32
abbrev N_law_box : List Str := ["script", "k", "cell"]
theorem sc_law_box : FnScope N_law_box ["script", "k"] (defScope s_law_box) := ⟨rfl, rfl, rfl, by decide +kernel, rfl, by decide +kernel, by decide +kernel⟩
abbrev s_law_take : Stmt := topS 33
abbrev N_law_take : List Str := ["box", "many", "digit", "raw"]
theorem sc_law_take : FnScope N_law_take ["box", "many"] (defScope s_law_take) := ⟨rfl, rfl, rfl, by decide +kernel, rfl, by decide +kernel, by decide +kernel⟩
abbrev s_law_pick : Stmt := topS 34
abbrev N_law_pick : List Str := ["box", "some"]
theorem sc_law_pick : FnScope N_law_pick ["box", "some"] (defScope s_law_pick) := ⟨rfl, rfl, rfl, by decide +kernel, rfl, by decide +kernel, by decide +kernel⟩
abbrev s_law_word : Stmt := topS 35
abbrev N_law_word : List Str := ["box", "letters", "word", "turn", "kind"]
theorem sc_law_word : FnScope N_law_word ["box", "letters"] (defScope s_law_word) := ⟨rfl, rfl, rfl, by decide +kernel, rfl, by decide +kernel, by decide +kernel⟩
abbrev s_law_struck : Stmt := topS 36
abbrev N_law_struck : List Str := ["box", "word", "left", "pairs", "turn", "found", "at", "one", "other"]
theorem sc_law_struck : FnScope N_law_struck ["box", "word"] (defScope s_law_struck) := ⟨rfl, rfl, rfl, by decide +kernel, rfl, by decide +kernel, by decide +kernel⟩
abbrev s_law_pairs_right : Stmt := topS 37
abbrev N_law_pairs_right : List Str := ["word", "pairs", "taken", "pair", "first", "last", "at", "left"]
theorem sc_law_pairs_right : FnScope N_law_pairs_right ["word", "pairs"] (defScope s_law_pairs_right) := ⟨rfl, rfl, rfl, by decide +kernel, rfl, by decide +kernel, by decide +kernel⟩
abbrev s_law_spoilt : Stmt := topS 38
abbrev N_law_spoilt : List Str := ["box", "many", "pairs", "changed", "kind", "at"]
theorem sc_law_spoilt : FnScope N_law_spoilt ["box", "many", "pairs"] (defScope s_law_spoilt) := ⟨rfl, rfl, rfl, by decide +kernel, rfl, by decide +kernel, by decide +kernel⟩
abbrev s_law_refused : Stmt := topS 39
abbrev N_law_refused : List Str := ["call", "value", "e"]
theorem sc_law_refused : FnScope N_law_refused ["call", "value"] (defScope s_law_refused) := ⟨rfl, rfl, rfl, by decide +kernel, rfl, by decide +kernel, by decide +kernel⟩
abbrev s_law_refusals_right : Stmt := topS 40
abbrev N_law_refusals_right : List Str := ["box", "word", "bad", "at", "spoilt", "found", "due", "call"]
theorem sc_law_refusals_right : FnScope N_law_refusals_right ["box", "word"] (defScope s_law_refusals_right) := ⟨rfl, rfl, rfl, by decide +kernel, rfl, by decide +kernel, by decide +kernel⟩
abbrev s_law_word_right : Stmt := topS 41
abbrev N_law_word_right : List Str := ["box", "word", "left", "pairs", "told", "given", "turn", "changed", "odd", "one", "value", "pair"]
theorem sc_law_word_right : FnScope N_law_word_right ["box", "word"] (defScope s_law_word_right) := ⟨rfl, rfl, rfl, by decide +kernel, rfl, by decide +kernel, by decide +kernel⟩
abbrev s_law : Stmt := topS 42
abbrev N_law : List Str := ["script", "k", "box", "letters", "word", "other", "back", "left", "plain", "due", "turn", "letter", "sign"]
theorem sc_law : FnScope N_law ["script"] (defScope s_law) := ⟨rfl, rfl, rfl, by decide +kernel, rfl, by decide +kernel, by decide +kernel⟩
/-! ### what they do to data -/
def G_is_integer : Rho → So := (retS (andV (unF (isiD "int") (varF 0)) (notV (unF (isiD "bool") (varF 0)))))
def m_is_integer : List Sl → Fo := mF 1 0 G_is_integer
def G_is_number : Rho → So := (retS (andV (clF 1 m_is_integer (consD (varF 0) nilD)) (opF geD (varF 0) (cF (.int 0)))))
def m_is_number : List Sl → Fo := mF 1 0 G_is_number
def G_is_number_below : Rho → So := (retS (andV (clF 1 m_is_number (consD (varF 0) nilD)) (opF ltD (varF 0) (varF 1))))
def m_is_number_below : List Sl → Fo := mF 2 0 G_is_number_below
def G_is_sequence : Rho → So := (retS (unF (isi2D "list" "tuple") (varF 0)))
def m_is_sequence : List Sl → Fo := mF 1 0 G_is_sequence
def G_is_row_of : Rho → So := (retS (andV (clF 1 m_is_sequence (consD (varF 0) nilD)) (opF eqD (callF lenD (consF (varF 0) nilF)) (varF 1))))
def m_is_row_of : List Sl → Fo := mF 2 0 G_is_row_of
def G_is_tuple_of : Rho → So := (retS (andV (unF (isiD "tuple") (varF 0)) (opF eqD (callF lenD (consF (varF 0) nilF)) (varF 1))))
def m_is_tuple_of : List Sl → Fo := mF 2 0 G_is_tuple_of
def G_is_letter : Rho → So := (retS (clF 2 m_is_number_below (consD (varF 0) (consD (cF (.int 100)) nilD))))
def m_is_letter : List Sl → Fo := mF 1 0 G_is_letter
def G_text_or_none : Rho → So := (seqS (iteS (notF (tstF (clF 1 m_is_sequence (consD (varF 0) nilD))))
  (retS (cF .none))
  nxS)
  (seqS (forS (seqI (varF 0)) (nameT 1)
  (iteS (notF (tstF (clF 1 m_is_letter (consD (varF 1) nilD))))
  (retS (cF .none))
  nxS))
  (retS (unF tupleD (varF 0)))))
def m_text_or_none : List Sl → Fo := mF 1 1 G_text_or_none
def G_need_text : Rho → So := (seqS (asgS 2 (clF 1 m_text_or_none (consD (varF 0) nilD)))
  (seqS (iteS (tstF (unF (isnD false) (varF 2)))
  (rseS 0 (consD (varF 1) nilD))
  nxS)
  (retS (varF 2))))
def m_need_text : List Sl → Fo := mF 2 1 G_need_text
def G_is_signed_letter : Rho → So := (seqS (iteS (notF (tstF (clF 2 m_is_row_of (consD (varF 0) (consD (cF (.int 2)) nilD)))))
  (retS (cF (.bool false)))
  nxS)
  (retS (andV (clF 1 m_is_letter (consD (opF ixD (varF 0) (cF (.int 0))) nilD)) (andV (clF 1 m_is_integer (consD (opF ixD (varF 0) (cF (.int 1))) nilD)) (opF inTD (opF ixD (varF 0) (cF (.int 1))) (tupF (consD (cF (.int 1)) (consD (unF negD (cF (.int 1))) nilD))))))))
def m_is_signed_letter : List Sl → Fo := mF 1 0 G_is_signed_letter
def G_need_word : Rho → So := (seqS (iteS (notF (tstF (clF 1 m_is_sequence (consD (varF 0) nilD))))
  (rseS 1 (consD (varF 1) nilD))
  nxS)
  (seqS (forS (seqI (varF 0)) (nameT 2)
  (iteS (notF (tstF (clF 1 m_is_signed_letter (consD (varF 2) nilD))))
  (rseS 1 (consD (varF 1) nilD))
  nxS))
  (retS (unF tupleD (lcF (seqI (varF 0)) (nameT 2) yesF (tupF (consD (opF ixD (varF 2) (cF (.int 0))) (consD (opF ixD (varF 2) (cF (.int 1))) nilD))) [2])))))
def m_need_word : List Sl → Fo := mF 2 1 G_need_word
def G_undo_each_other : Rho → So := (retS (andV (opF eqD (opF ixD (varF 0) (cF (.int 0))) (opF ixD (varF 1) (cF (.int 0)))) (opF neD (opF ixD (varF 0) (cF (.int 1))) (opF ixD (varF 1) (cF (.int 1))))))
def m_undo_each_other : List Sl → Fo := mF 2 0 G_undo_each_other
def G_struck : Rho → So := (seqS (asgS 1 (lstF nilD))
  (seqS (forS (seqI (varF 0)) (nameT 2)
  (iteS (andF (truF (varF 1)) (tstF (clF 2 m_undo_each_other (consD (opF ixD (varF 1) (unF negD (cF (.int 1)))) (consD (varF 2) nilD)))))
  (dropS (mutF popD 1 nilD))
  (dropS (mutF apD 1 (consD (varF 2) nilD)))))
  (retS (unF tupleD (varF 1)))))
def m_struck : List Sl → Fo := mF 1 2 G_struck
def G_undone : Rho → So := (retS (unF tupleD (lcF (seqI (stpF (varF 0) (parO (unF negD (cF (.int 1)))))) (tupU 2 (consT (nameT 1) (consT (nameT 2) nilT))) yesF (tupF (consD (varF 1) (consD (unF negD (varF 2)) nilD))) [1, 2])))
def m_undone : List Sl → Fo := mF 1 2 G_undone
def G_strike_out : Rho → So := (retS (clF 1 m_struck (consD (clF 2 m_need_word (consD (varF 0) (consD (unF negD (cF (.int 1))) nilD))) nilD)))
def m_strike_out : List Sl → Fo := mF 1 0 G_strike_out
def G_undo_word : Rho → So := (retS (clF 1 m_undone (consD (clF 2 m_need_word (consD (varF 0) (consD (unF negD (cF (.int 1))) nilD))) nilD)))
def m_undo_word : List Sl → Fo := mF 1 0 G_undo_word
def G_join_words : Rho → So := (seqS (asgS 2 (clF 2 m_need_word (consD (varF 0) (consD (cF (.int 0)) nilD))))
  (retS (clF 1 m_struck (consD (opF addD (varF 2) (clF 2 m_need_word (consD (varF 1) (consD (cF (.int 1)) nilD)))) nilD))))
def m_join_words : List Sl → Fo := mF 2 1 G_join_words
def G_strike_pairs : Rho → So := (seqS (asgS 0 (clF 2 m_need_word (consD (varF 0) (consD (unF negD (cF (.int 1))) nilD))))
  (seqS (asgS 1 (lstF nilD))
  (seqS (asgS 2 (lstF nilD))
  (seqS (forS (enumUI (varF 0)) (tupU 2 (consT (nameT 3) (consT (nameT 4) nilT)))
  (iteS (andF (truF (varF 1)) (tstF (clF 2 m_undo_each_other (consD (opF ixD (varF 0) (opF ixD (varF 1) (unF negD (cF (.int 1))))) (consD (varF 4) nilD)))))
  (dropS (mutF apD 2 (consD (tupF (consD (mutF popD 1 nilD) (consD (varF 3) nilD))) nilD)))
  (dropS (mutF apD 1 (consD (varF 3) nilD)))))
  (retS (unF tupleD (callF sortedD (consF (varF 2) nilF))))))))
def m_strike_pairs : List Sl → Fo := mF 1 4 G_strike_pairs
def G_partners_or_none : Rho → So := (seqS (asgS 2 (opF mulLD (lstF (consD (unF negD (cF (.int 1))) nilD)) (callF lenD (consF (varF 0) nilF))))
  (seqS (asgS 3 (tupF (consD (unF negD (cF (.int 1))) (consD (unF negD (cF (.int 1))) nilD))))
  (seqS (forS (seqI (varF 1)) (nameT 4)
  (seqS (iteS (orF (notF (tstF (clF 2 m_is_tuple_of (consD (varF 4) (consD (cF (.int 2)) nilD))))) (orF (notF (tstF (clF 1 m_is_integer (consD (opF ixD (varF 4) (cF (.int 0))) nilD)))) (notF (tstF (clF 1 m_is_integer (consD (opF ixD (varF 4) (cF (.int 1))) nilD))))))
  (retS (cF .none))
  nxS)
  (seqS (tgS (tupU 2 (consT (nameT 5) (consT (nameT 6) nilT))) (varF 4))
  (seqS (iteS (orF (tstF (opF ltD (varF 5) (cF (.int 0)))) (orF (tstF (opF geD (varF 5) (varF 6))) (orF (tstF (opF geD (varF 6) (callF lenD (consF (varF 0) nilF)))) (tstF (opF leTD (varF 4) (varF 3))))))
  (retS (cF .none))
  nxS)
  (seqS (iteS (orF (tstF (opF neD (opF ixD (varF 2) (varF 5)) (unF negD (cF (.int 1))))) (orF (tstF (opF neD (opF ixD (varF 2) (varF 6)) (unF negD (cF (.int 1))))) (notF (tstF (clF 2 m_undo_each_other (consD (opF ixD (varF 0) (varF 5)) (consD (opF ixD (varF 0) (varF 6)) nilD)))))))
  (retS (cF .none))
  nxS)
  (seqS (setS 2 (varF 6) (varF 5))
  (seqS (setS 2 (varF 5) (varF 6))
  (asgS 3 (varF 4)))))))))
  (retS (varF 2)))))
def m_partners_or_none : List Sl → Fo := mF 2 5 G_partners_or_none
def G_strikes_hold : Rho → So := (seqS (asgS 0 (clF 2 m_need_word (consD (varF 0) (consD (unF negD (cF (.int 1))) nilD))))
  (seqS (iteS (notF (tstF (unF (isiD "tuple") (varF 1))))
  (retS (cF (.bool false)))
  nxS)
  (seqS (asgS 2 (clF 2 m_partners_or_none (consD (varF 0) (consD (varF 1) nilD))))
  (seqS (iteS (tstF (unF (isnD false) (varF 2)))
  (retS (cF (.bool false)))
  nxS)
  (seqS (forS (seqI (varF 1)) (tupU 2 (consT (nameT 3) (consT (nameT 4) nilT)))
  (forS (rng2I (consD (opF addD (varF 3) (cF (.int 1))) (consD (varF 4) nilD))) (nameT 5)
  (iteS (orF (tstF (opF leD (opF ixD (varF 2) (varF 5)) (varF 3))) (tstF (opF geD (opF ixD (varF 2) (varF 5)) (varF 4))))
  (retS (cF (.bool false)))
  nxS)))
  (seqS (asgS 6 (unF tupleD (lcF (enumUI (varF 0)) (tupU 2 (consT (nameT 7) (consT (nameT 8) nilT))) (tstF (opF eqD (opF ixD (varF 2) (varF 7)) (unF negD (cF (.int 1))))) (varF 8) [7, 8])))
  (retS (opF eqD (clF 1 m_struck (consD (varF 6) nilD)) (varF 6)))))))))
def m_strikes_hold : List Sl → Fo := mF 2 7 G_strikes_hold
def G_word_of : Rho → So := (retS (unF tupleD (lcF (seqI (varF 0)) (nameT 1) yesF (tupF (consD (varF 1) (consD (cF (.int 1)) nilD))) [1])))
def m_word_of : List Sl → Fo := mF 1 1 G_word_of
def G_text_of : Rho → So := (seqS (iteS (tstF (callF anyD (consF (lcF (seqI (varF 0)) (tupU 2 (consT (nameT 1) (consT (nameT 2) nilT))) yesF (opF ltD (varF 2) (cF (.int 0))) [1, 2]) nilF)))
  (retS (cF .none))
  nxS)
  (retS (unF tupleD (lcF (seqI (varF 0)) (tupU 2 (consT (nameT 3) (consT (nameT 1) nilT))) yesF (varF 3) [3, 1]))))
def m_text_of : List Sl → Fo := mF 1 3 G_text_of
def G_text_word : Rho → So := (retS (clF 1 m_word_of (consD (clF 2 m_need_text (consD (varF 0) (consD (unF negD (cF (.int 1))) nilD))) nilD)))
def m_text_word : List Sl → Fo := mF 1 0 G_text_word
def G_word_text : Rho → So := (retS (clF 1 m_text_of (consD (clF 1 m_struck (consD (clF 2 m_need_word (consD (varF 0) (consD (unF negD (cF (.int 1))) nilD))) nilD)) nilD)))
def m_word_text : List Sl → Fo := mF 1 0 G_word_text
def G_law_box : Rho → So := (seqS (asgS 2 (opF addD (opF mulD (cF (.int 6121)) (varF 1)) (cF (.int 877))))
  (seqS (iteS (tstF (opF ltD (varF 1) (callF lenD (consF (varF 0) nilF))))
  (asgS 2 (callF absD (consF (opF ixD (varF 0) (varF 1)) nilF)))
  (iteS (tstF (opF gtD (callF lenD (consF (varF 0) nilF)) (cF (.int 0))))
  (asgS 2 (opF addD (varF 2) (opF mulD (opF modD (callF intOfD (consF (callF absD (consF (opF ixD (varF 0) (opF modD (callF intOfD (consF (varF 1) nilF)) (callF lenD (consF (varF 0) nilF)))) nilF)) nilF)) (cF (.int 2147483629))) (cF (.int 60013)))))
  nxS))
  (retS (lstF (consD (opF ixD (lstF (consD (cF (.int 0)) (consD (varF 2) nilD))) (callF intOfD (consF (opF geD (varF 2) (opF powD (cF (.int 10)) (cF (.int 18)))) nilF))) (consD (opF addD (opF modD (callF intOfD (consF (opF addD (opF mulD (opF modD (callF intOfD (consF (varF 2) nilF)) (cF (.int 2147483629))) (cF (.int 38377))) (opF mulD (cF (.int 71129)) (varF 1))) nilF)) (cF (.int 2147483629))) (cF (.int 1))) (consD (cF (.int 0)) nilD)))))))
def m_law_box : List Sl → Fo := mF 2 1 G_law_box
def G_law_take : Rho → So := (seqS (iteS (tstF (opF gtD (opF ixD (varF 0) (cF (.int 0))) (cF (.int 0))))
  (seqS (asgS 2 (opF modD (callF intOfD (consF (opF ixD (varF 0) (cF (.int 0))) nilF)) (varF 1)))
  (seqS (setS 0 (opF fdvD (opF ixD (varF 0) (cF (.int 0))) (varF 1)) (cF (.int 0)))
  (retS (varF 2))))
  nxS)
  (seqS (setS 0 (opF addD (opF ixD (varF 0) (cF (.int 2))) (cF (.int 1))) (cF (.int 2)))
  (seqS (asgS 3 (opF modD (callF intOfD (consF (opF addD (opF mulD (opF addD (opF ixD (varF 0) (cF (.int 1))) (opF mulD (cF (.int 90007)) (opF ixD (varF 0) (cF (.int 2))))) (cF (.int 58217))) (cF (.int 43))) nilF)) (cF (.int 2147483563))))
  (seqS (setS 0 (opF addD (opF modD (callF intOfD (consF (opF addD (opF mulD (varF 3) (cF (.int 40289))) (cF (.int 27367))) nilF)) (cF (.int 2147483629))) (cF (.int 1))) (cF (.int 1)))
  (retS (opF modD (callF intOfD (consF (opF fdvD (opF addD (opF mulD (varF 3) (cF (.int 2147483647))) (opF ixD (varF 0) (cF (.int 1)))) (cF (.int 8191))) nilF)) (varF 1)))))))
def m_law_take : List Sl → Fo := mF 2 2 G_law_take
def G_law_pick : Rho → So := (retS (opF ixD (varF 1) (clI 2 m_law_take 0 (consD (callF lenD (consF (varF 1) nilF)) nilD))))
def m_law_pick : List Sl → Fo := mF 2 0 G_law_pick
def G_law_word : Rho → So := (seqS (asgS 2 (lstF nilD))
  (seqS (forS (rng1I (clI 2 m_law_take 0 (consD (cF (.int 15)) nilD))) (nameT 3)
  (seqS (asgS 4 (clI 2 m_law_take 0 (consD (cF (.int 3)) nilD)))
  (iteS (andF (tstF (opF gtD (callF lenD (consF (varF 2) nilF)) (cF (.int 0)))) (tstF (opF eqD (varF 4) (cF (.int 0)))))
  (dropS (mutF apD 2 (consD (tupF (consD (opF ixD (opF ixD (varF 2) (unF negD (cF (.int 1)))) (cF (.int 0))) (consD (opF subD (cF (.int 0)) (opF ixD (opF ixD (varF 2) (unF negD (cF (.int 1)))) (cF (.int 1)))) nilD))) nilD)))
  (dropS (mutF apD 2 (consD (tupF (consD (clI 2 m_law_pick 0 (consD (varF 1) nilD)) (consD (opF ixD (lstF (consD (cF (.int 1)) (consD (opF subD (cF (.int 0)) (cF (.int 1))) nilD))) (clI 2 m_law_take 0 (consD (cF (.int 2)) nilD))) nilD))) nilD))))))
  (retS (unF tupleD (varF 2)))))
def m_law_word : List Sl → Fo := mF 2 3 G_law_word
def G_law_struck : Rho → So := (seqS (parS 2 3 (rgL1F (consD (callF lenD (consF (varF 1) nilF)) nilD)) (lstF nilD))
  (seqS (forS (rng1I (callF lenD (consF (varF 1) nilF))) (nameT 4)
  (seqS (asgS 5 (lstF nilD))
  (seqS (forS (rng1I (opF subD (callF lenD (consF (varF 2) nilF)) (cF (.int 1)))) (nameT 6)
  (seqS (parS 7 8 (opF ixD (varF 1) (opF ixD (varF 2) (varF 6))) (opF ixD (varF 1) (opF ixD (varF 2) (opF addD (varF 6) (cF (.int 1))))))
  (iteS (andF (tstF (opF eqD (opF ixD (varF 7) (cF (.int 0))) (opF ixD (varF 8) (cF (.int 0))))) (tstF (opF eqD (opF ixD (varF 7) (cF (.int 1))) (opF subD (cF (.int 0)) (opF ixD (varF 8) (cF (.int 1)))))))
  (dropS (mutF apD 5 (consD (varF 6) nilD)))
  nxS)))
  (iteS (tstF (opF gtD (callF lenD (consF (varF 5) nilF)) (cF (.int 0))))
  (seqS (asgS 6 (clI 2 m_law_pick 0 (consD (varF 5) nilD)))
  (seqS (dropS (mutF apD 3 (consD (tupF (consD (opF ixD (varF 2) (varF 6)) (consD (opF ixD (varF 2) (opF addD (varF 6) (cF (.int 1)))) nilD))) nilD)))
  (asgS 2 (opF addD (slF (varF 2) noO (parO (varF 6))) (slF (varF 2) (parO (opF addD (varF 6) (cF (.int 2)))) noO)))))
  nxS))))
  (retS (tupF (consD (unF tupleD (lcF (seqI (varF 2)) (nameT 6) yesF (opF ixD (varF 1) (varF 6)) [6])) (consD (callF sortedD (consF (varF 3) nilF)) nilD))))))
def m_law_struck : List Sl → Fo := mF 2 7 G_law_struck
def G_law_pairs_right : Rho → So := (seqS (asgS 2 (lstF nilD))
  (seqS (forS (seqI (varF 1)) (nameT 3)
  (dropS (mutF xtD 2 (consD (callF listD (consF (varF 3) nilF)) nilD))))
  (seqS (iteS (orF (tstF (opF neD (unF lenSetD (varF 2)) (callF lenD (consF (varF 2) nilF)))) (tstF (opF neD (callF listD (consF (varF 1) nilF)) (callF sortedD (consF (varF 1) nilF)))))
  (retS (cF (.bool false)))
  nxS)
  (seqS (forS (seqI (varF 1)) (tupU 2 (consT (nameT 4) (consT (nameT 5) nilT)))
  (seqS (iteS (orF (tstF (opF geD (varF 4) (varF 5))) (orF (tstF (opF neD (opF ixD (opF ixD (varF 0) (varF 4)) (cF (.int 0))) (opF ixD (opF ixD (varF 0) (varF 5)) (cF (.int 0))))) (tstF (opF eqD (opF ixD (opF ixD (varF 0) (varF 4)) (cF (.int 1))) (opF ixD (opF ixD (varF 0) (varF 5)) (cF (.int 1)))))))
  (retS (cF (.bool false)))
  nxS)
  (forS (rng2I (consD (opF addD (varF 4) (cF (.int 1))) (consD (varF 5) nilD))) (nameT 6)
  (iteS (tstF (opF neD (callF lenD (consF (lcF (seqI (varF 1)) (nameT 3) (andF (chnF (varF 4) (opF ixD (varF 3) (cF (.int 0))) (opF ixD (varF 3) (cF (.int 1))) (varF 5)) (tstF (opF inTD (varF 6) (varF 3)))) (varF 3) [3]) nilF)) (cF (.int 1))))
  (retS (cF (.bool false)))
  nxS))))
  (seqS (asgS 7 (lcF (rng1I (callF lenD (consF (varF 0) nilF))) (nameT 6) (tstF (opF (inDl true) (varF 6) (varF 2))) (opF ixD (varF 0) (varF 6)) [6]))
  (retS (opF eqD (callF lenD (consF (lcF (rng1I (opF subD (callF lenD (consF (varF 7) nilF)) (cF (.int 1)))) (nameT 6) (tstF (opF eqD (opF ixD (varF 7) (varF 6)) (tupF (consD (opF ixD (opF ixD (varF 7) (opF addD (varF 6) (cF (.int 1)))) (cF (.int 0))) (consD (opF subD (cF (.int 0)) (opF ixD (opF ixD (varF 7) (opF addD (varF 6) (cF (.int 1)))) (cF (.int 1)))) nilD))))) (varF 6) [6]) nilF)) (cF (.int 0)))))))))
def m_law_pairs_right : List Sl → Fo := mF 2 6 G_law_pairs_right
def G_law_spoilt : Rho → So := (seqS (parS 3 4 (callF listD (consF (varF 2) nilF)) (clI 2 m_law_take 0 (consD (cF (.int 4)) nilD)))
  (seqS (iteS (andF (tstF (opF eqD (varF 4) (cF (.int 0)))) (tstF (opF gtD (callF lenD (consF (varF 3) nilF)) (cF (.int 0)))))
  (dropS (mutF popAtD 3 (consD (clI 2 m_law_take 0 (consD (callF lenD (consF (varF 3) nilF)) nilD)) nilD)))
  (iteS (andF (tstF (opF eqD (varF 4) (cF (.int 1)))) (tstF (opF gtD (callF lenD (consF (varF 3) nilF)) (cF (.int 0)))))
  (seqS (asgS 5 (clI 2 m_law_take 0 (consD (callF lenD (consF (varF 3) nilF)) nilD)))
  (setS 3 (tupF (consD (opF ixD (opF ixD (varF 3) (varF 5)) (cF (.int 0))) (consD (clI 2 m_law_take 0 (consD (varF 1) nilD)) nilD))) (varF 5)))
  (iteS (andF (tstF (opF eqD (varF 4) (cF (.int 2)))) (tstF (opF gtD (varF 1) (cF (.int 1)))))
  (dropS (mutF apD 3 (consD (tupF (consD (clI 2 m_law_take 0 (consD (opF subD (varF 1) (cF (.int 1))) nilD)) (consD (opF subD (varF 1) (cF (.int 1))) nilD))) nilD)))
  (dropS (mutF revD 3 nilD)))))
  (retS (ifF (tstF (opF eqD (clI 2 m_law_take 0 (consD (cF (.int 3)) nilD)) (cF (.int 0)))) (unF tupleD (varF 3)) (unF tupleD (callF sortedD (consF (varF 3) nilF)))))))
def m_law_spoilt : List Sl → Fo := mF 3 3 G_law_spoilt
def G_law_refused : Rho → So := (seqS (tryM 2 ((1, (retS (tupF (consD (cF (.str "word")) (consD (atF 2 1) nilD))))) ::
    ((0, (retS (tupF (consD (cF (.str "text")) (consD (atF 2 0) nilD))))) ::
    []))
  (iteS (tstF (opF eqD (varF 0) (cF (.int 0))))
  (dropS (clKF 1 m_strike_out [0] 0 1 nilD (consD (varF 1) nilD)))
  (iteS (tstF (opF eqD (varF 0) (cF (.int 1))))
  (dropS (clKF 1 m_undo_word [0] 0 1 nilD (consD (varF 1) nilD)))
  (iteS (tstF (opF eqD (varF 0) (cF (.int 2))))
  (dropS (clKF 2 m_join_words [0, 1] 0 2 nilD (consD (varF 1) (consD (varF 1) nilD))))
  (iteS (tstF (opF eqD (varF 0) (cF (.int 3))))
  (dropS (clKF 2 m_join_words [0, 1] 0 2 nilD (consD (tupF nilD) (consD (varF 1) nilD))))
  (iteS (tstF (opF eqD (varF 0) (cF (.int 4))))
  (dropS (clKF 1 m_strike_pairs [0] 0 1 nilD (consD (varF 1) nilD)))
  (iteS (tstF (opF eqD (varF 0) (cF (.int 5))))
  (dropS (clKF 2 m_strikes_hold [0, 1] 0 2 nilD (consD (varF 1) (consD (tupF nilD) nilD))))
  (iteS (tstF (opF eqD (varF 0) (cF (.int 6))))
  (dropS (clKF 1 m_word_text [0] 0 1 nilD (consD (varF 1) nilD)))
  (dropS (clKF 1 m_text_word [0] 0 1 nilD (consD (varF 1) nilD)))))))))))
  (retS (cF .none)))
def m_law_refused : List Sl → Fo := mF 2 1 G_law_refused
def G_law_refusals_right : Rho → So := (seqS (asgS 2 (clI 2 m_law_pick 0 (consD (lstF (consD (cF .none) (consD (tupF (consD (cF (.int 1)) (consD (cF (.int 0)) nilD))) (consD (tupF (consD (cF (.int 1)) (consD (cF (.int 2)) nilD))) (consD (tupF (consD (cF (.int 100)) (consD (cF (.int 1)) nilD))) (consD (tupF (consD (opF subD (cF (.int 0)) (cF (.int 1))) (consD (cF (.int 1)) nilD))) (consD (tupF (consD (cF (.int 1)) (consD (cF (.bool true)) nilD))) (consD (tupF (consD (cF (.bool true)) (consD (cF (.int 1)) nilD))) (consD (tupF (consD (cF (.int 1)) nilD)) (consD (tupF (consD (cF (.int 1)) (consD (cF (.int 1)) (consD (cF (.int 1)) nilD)))) (consD (cF (.str "a1")) (consD (cF (.int 7)) nilD)))))))))))) nilD)))
  (seqS (asgS 3 (clI 2 m_law_take 0 (consD (opF addD (callF lenD (consF (varF 1) nilF)) (cF (.int 1))) nilD)))
  (seqS (asgS 4 (opF addD (opF addD (callF listD (consF (slF (varF 1) noO (parO (varF 3))) nilF)) (lstF (consD (varF 2) nilD))) (callF listD (consF (slF (varF 1) (parO (varF 3)) noO) nilF))))
  (seqS (asgS 5 (opF addD (lcF (rng1I (cF (.int 7))) (nameT 7) yesF (clF 2 m_law_refused (consD (varF 7) (consD (varF 4) nilD))) [7]) (lcF (rng1I (cF (.int 8))) (nameT 7) yesF (clF 2 m_law_refused (consD (varF 7) (consD (cF .none) nilD))) [7])))
  (seqS (asgS 6 (opF addD (opF addD (opF mulLD (lstF (consD (tupF (consD (cF (.str "word")) (consD (opF subD (cF (.int 0)) (cF (.int 1))) nilD))) nilD)) (cF (.int 2))) (lstF (consD (tupF (consD (cF (.str "word")) (consD (cF (.int 0)) nilD))) (consD (tupF (consD (cF (.str "word")) (consD (cF (.int 1)) nilD))) nilD)))) (opF mulLD (lstF (consD (tupF (consD (cF (.str "word")) (consD (opF subD (cF (.int 0)) (cF (.int 1))) nilD))) nilD)) (cF (.int 3)))))
  (retS (opF eqSD (callF reprD (consF (varF 5) nilF)) (callF reprD (consF (opF addD (opF addD (varF 6) (varF 6)) (lstF (consD (tupF (consD (cF (.str "text")) (consD (opF subD (cF (.int 0)) (cF (.int 1))) nilD))) nilD))) nilF)))))))))
def m_law_refusals_right : List Sl → Fo := mF 2 6 G_law_refusals_right
def G_law_word_right : Rho → So := (seqS (tgS (tupU 2 (consT (nameT 2) (consT (nameT 3) nilT))) (clI 2 m_law_struck 0 (consD (varF 1) nilD)))
  (seqS (parS 4 5 (clKF 1 m_strike_pairs [0] 0 1 nilD (consD (varF 1) nilD)) (lcF (seqI (varF 1)) (nameT 9) yesF (callF listD (consF (varF 9) nilF)) [9]))
  (seqS (iteS (lendF 5 (orF (tstF (opF neSD (callF reprD (consF (clKF 1 m_strike_out [0] 0 1 nilD (consD (varF 5) nilD)) nilF)) (callF reprD (consF (varF 2) nilF)))) (tstF (opF neSD (callF reprD (consF (clF 1 m_strike_pairs (consD (varF 5) nilD)) nilF)) (callF reprD (consF (varF 4) nilF))))))
  (retS (cF (.bool false)))
  nxS)
  (seqS (dropS (mutF apD 5 (consD (lstF (consD (cF (.int 0)) (consD (cF (.int 1)) nilD))) nilD)))
  (seqS (iteS (orF (notF (tstF (unF (isiD "tuple") (varF 4)))) (orF (tstF (opF neD (callF lenD (consF (varF 4) nilF)) (callF lenD (consF (varF 3) nilF)))) (notF (tstF (clF 2 m_law_pairs_right (consD (varF 1) (consD (varF 4) nilD)))))))
  (retS (cF (.bool false)))
  nxS)
  (seqS (iteS (orF (notF (tstF (clKF 2 m_strikes_hold [0, 1] 0 2 nilD (consD (varF 1) (consD (unF tupleD (varF 3)) nilD))))) (orF (tstF (clF 2 m_strikes_hold (consD (varF 1) (consD (varF 3) nilD)))) (tstF (clF 2 m_strikes_hold (consD (varF 1) (consD (cF .none) nilD))))))
  (retS (cF (.bool false)))
  nxS)
  (seqS (forS (rng1I (cF (.int 3))) (nameT 6)
  (seqS (asgS 7 (clI 3 m_law_spoilt 0 (consD (callF lenD (consF (varF 1) nilF)) (consD (varF 3) nilD))))
  (iteS (tstF (opF neSD (callF reprD (consF (clKF 2 m_strikes_hold [0, 1] 0 2 nilD (consD (varF 1) (consD (varF 7) nilD))) nilF)) (callF reprD (consF (clF 2 m_law_pairs_right (consD (varF 1) (consD (varF 7) nilD))) nilF))))
  (retS (cF (.bool false)))
  nxS)))
  (seqS (asgS 8 (tupF (consD (opF addD (unF tupleD (varF 3)) (tupF (consD (tupF (consD (cF (.int 0)) nilD)) nilD))) (consD (opF addD (unF tupleD (lcF (seqI (varF 3)) (nameT 11) yesF (callF listD (consF (varF 11) nilF)) [11])) (tupF (consD (lstF (consD (cF (.int 0)) (consD (cF (.int 1)) nilD))) nilD))) (consD (opF addD (unF tupleD (varF 3)) (tupF (consD (tupF (consD (callF lenD (consF (varF 1) nilF)) (consD (opF addD (callF lenD (consF (varF 1) nilF)) (cF (.int 1))) nilD))) nilD))) nilD)))))
  (retS (opF (inDl true) (cF (.bool true)) (lcF (seqI (varF 8)) (nameT 10) yesF (clF 2 m_strikes_hold (consD (varF 1) (consD (varF 10) nilD))) [10])))))))))))
def m_law_word_right : List Sl → Fo := mF 2 10 G_law_word_right
def G_law : Rho → So := (seqS (iteS (orF (tstF (opF neD (clF 1 m_strike_out (consD (tupF (consD (tupF (consD (cF (.int 3)) (consD (cF (.int 1)) nilD))) (consD (tupF (consD (cF (.int 5)) (consD (cF (.int 1)) nilD))) (consD (tupF (consD (cF (.int 5)) (consD (opF subD (cF (.int 0)) (cF (.int 1))) nilD))) (consD (tupF (consD (cF (.int 3)) (consD (opF subD (cF (.int 0)) (cF (.int 1))) nilD))) (consD (tupF (consD (cF (.int 9)) (consD (opF subD (cF (.int 0)) (cF (.int 1))) nilD))) nilD)))))) nilD)) (tupF (consD (tupF (consD (cF (.int 9)) (consD (opF subD (cF (.int 0)) (cF (.int 1))) nilD))) nilD)))) (tstF (opF neD (clF 1 m_strike_out (consD (tupF nilD) nilD)) (tupF nilD))))
  (retS (cF (.bool false)))
  nxS)
  (seqS (forS (rng1I (callF max2D (consF (cF (.int 2)) (consF (callF min2D (consF (cF (.int 4)) (consF (callF lenD (consF (varF 0) nilF)) nilF))) nilF)))) (nameT 1)
  (seqS (asgS 2 (clF 2 m_law_box (consD (varF 0) (consD (varF 1) nilD))))
  (seqS (asgS 3 (lcF (rng1I (cF (.int 3))) (nameT 10) yesF (clI 2 m_law_take 2 (consD (cF (.int 100)) nilD)) [10]))
  (seqS (parS 4 5 (clI 2 m_law_word 2 (consD (varF 3) nilD)) (clI 2 m_law_word 2 (consD (varF 3) nilD)))
  (seqS (iteS (orF (notF (tstF (clI 2 m_law_word_right 2 (consD (varF 4) nilD)))) (orF (notF (tstF (clI 2 m_law_word_right 2 (consD (varF 5) nilD)))) (notF (tstF (clI 2 m_law_refusals_right 2 (consD (varF 4) nilD))))))
  (retS (cF (.bool false)))
  nxS)
  (seqS (asgS 6 (unF tupleD (lcF (seqI (stpF (varF 4) (parO (unF negD (cF (.int 1)))))) (tupU 2 (consT (nameT 11) (consT (nameT 12) nilT))) yesF (tupF (consD (varF 11) (consD (opF subD (cF (.int 0)) (varF 12)) nilD))) [11, 12])))
  (seqS (iteS (orF (tstF (opF neSD (callF reprD (consF (clKF 1 m_undo_word [0] 0 1 nilD (consD (callF listD (consF (varF 4) nilF)) nilD)) nilF)) (callF reprD (consF (varF 6) nilF)))) (tstF (opF neD (clKF 2 m_join_words [0, 1] 0 2 nilD (consD (varF 4) (consD (varF 6) nilD))) (tupF nilD))))
  (retS (cF (.bool false)))
  nxS)
  (seqS (asgS 7 (opF ixD (clI 2 m_law_struck 2 (consD (opF addD (varF 4) (varF 5)) nilD)) (cF (.int 0))))
  (seqS (iteS (orF (tstF (opF neSD (callF reprD (consF (clKF 2 m_join_words [0, 1] 0 2 nilD (consD (varF 4) (consD (callF listD (consF (varF 5) nilF)) nilD))) nilF)) (callF reprD (consF (varF 7) nilF)))) (tstF (opF neSD (callF reprD (consF (clF 1 m_strike_out (consD (varF 4) nilD)) nilF)) (callF reprD (consF (opF ixD (clI 2 m_law_struck 2 (consD (varF 4) nilD)) (cF (.int 0))) nilF)))))
  (retS (cF (.bool false)))
  nxS)
  (seqS (asgS 8 (lcF (seqI (varF 7)) (tupU 2 (consT (nameT 11) (consT (nameT 12) nilT))) (tstF (opF eqD (varF 12) (cF (.int 1)))) (varF 11) [11, 12]))
  (seqS (asgS 9 (ifF (tstF (opF eqD (callF lenD (consF (varF 8) nilF)) (callF lenD (consF (varF 7) nilF)))) (unF tupleD (varF 8)) (cF .none)))
  (seqS (iteS (orF (tstF (opF neSD (callF reprD (consF (clKF 1 m_word_text [0] 0 1 nilD (consD (opF addD (varF 4) (varF 5)) nilD)) nilF)) (callF reprD (consF (varF 9) nilF)))) (tstF (opF neSD (callF reprD (consF (clF 1 m_word_text (consD (callF listD (consF (clKF 1 m_text_word [0] 0 1 nilD (consD (varF 8) nilD)) nilF)) nilD)) nilF)) (callF reprD (consF (unF tupleD (varF 8)) nilF)))))
  (retS (cF (.bool false)))
  nxS)
  (iteS (tstF (opF neSD (callF reprD (consF (clF 1 m_text_word (consD (unF tupleD (varF 8)) nilD)) nilF)) (callF reprD (consF (unF tupleD (lcF (seqI (varF 8)) (nameT 11) yesF (tupF (consD (varF 11) (consD (cF (.int 1)) nilD))) [11])) nilF))))
  (retS (cF (.bool false)))
  nxS)))))))))))))
  (retS (cF (.bool true)))))
def m_law : List Sl → Fo := mF 1 12 G_law
/-- what the top has written -/
structure Tx (K : PySem.W.Frag) (mg : Str → Option Value) : Type where
  xc : Nat → Addr
  m_abs : mg "abs" = none
  m_any : mg "any" = none
  m_bool : mg "bool" = none
  m_enumerate : mg "enumerate" = none
  m_int : mg "int" = none
  m_isinstance : mg "isinstance" = none
  m_len : mg "len" = none
  m_list : mg "list" = none
  m_max : mg "max" = none
  m_min : mg "min" = none
  m_range : mg "range" = none
  m_repr : mg "repr" = none
  m_set : mg "set" = none
  m_sorted : mg "sorted" = none
  m_tuple : mg "tuple" = none
  a_MergeError : Addr
  gB_MergeError : mg "MergeError" = some (.ref a_MergeError)
  C0 : Addr
  B0 : Addr
  f0 : Addr
  e0 : PySem.ErX.ErT K mg "InvalidText" "InvalidText.__init__" C0 B0 f0
  xe0 : xc 0 = C0
  c0 : PySem.W.ErC K C0
  k0_MergeError : PySem.W.kitOne K (.ref C0) (.ref a_MergeError) = some true
  C1 : Addr
  B1 : Addr
  f1 : Addr
  e1 : PySem.ErX.ErT K mg "InvalidWord" "InvalidWord.__init__" C1 B1 f1
  xe1 : xc 1 = C1
  c1 : PySem.W.ErC K C1
  k1_MergeError : PySem.W.kitOne K (.ref C1) (.ref a_MergeError) = some true
  n0_1 : PySem.W.exmOne K (.ref (xc 0)) (.ref C1) = some false
  a_is_integer : Addr
  d_is_integer : FuncData
  F_is_integer : Fun K "is_integer" "is_integer" s_is_integer a_is_integer d_is_integer
  g_is_integer : mg "is_integer" = some (.ref a_is_integer)
  b_is_integer : Binds K d_is_integer ["value"] []
  a_is_number : Addr
  d_is_number : FuncData
  F_is_number : Fun K "is_number" "is_number" s_is_number a_is_number d_is_number
  g_is_number : mg "is_number" = some (.ref a_is_number)
  b_is_number : Binds K d_is_number ["value"] []
  a_is_number_below : Addr
  d_is_number_below : FuncData
  F_is_number_below : Fun K "is_number_below" "is_number_below" s_is_number_below a_is_number_below d_is_number_below
  g_is_number_below : mg "is_number_below" = some (.ref a_is_number_below)
  b_is_number_below : Binds K d_is_number_below ["value", "limit"] []
  a_is_sequence : Addr
  d_is_sequence : FuncData
  F_is_sequence : Fun K "is_sequence" "is_sequence" s_is_sequence a_is_sequence d_is_sequence
  g_is_sequence : mg "is_sequence" = some (.ref a_is_sequence)
  b_is_sequence : Binds K d_is_sequence ["value"] []
  a_is_row_of : Addr
  d_is_row_of : FuncData
  F_is_row_of : Fun K "is_row_of" "is_row_of" s_is_row_of a_is_row_of d_is_row_of
  g_is_row_of : mg "is_row_of" = some (.ref a_is_row_of)
  b_is_row_of : Binds K d_is_row_of ["value", "many"] []
  a_is_tuple_of : Addr
  d_is_tuple_of : FuncData
  F_is_tuple_of : Fun K "is_tuple_of" "is_tuple_of" s_is_tuple_of a_is_tuple_of d_is_tuple_of
  g_is_tuple_of : mg "is_tuple_of" = some (.ref a_is_tuple_of)
  b_is_tuple_of : Binds K d_is_tuple_of ["value", "many"] []
  a_is_letter : Addr
  d_is_letter : FuncData
  F_is_letter : Fun K "is_letter" "is_letter" s_is_letter a_is_letter d_is_letter
  g_is_letter : mg "is_letter" = some (.ref a_is_letter)
  b_is_letter : Binds K d_is_letter ["value"] []
  a_text_or_none : Addr
  d_text_or_none : FuncData
  F_text_or_none : Fun K "text_or_none" "text_or_none" s_text_or_none a_text_or_none d_text_or_none
  g_text_or_none : mg "text_or_none" = some (.ref a_text_or_none)
  b_text_or_none : Binds K d_text_or_none ["value"] []
  a_need_text : Addr
  d_need_text : FuncData
  F_need_text : Fun K "need_text" "need_text" s_need_text a_need_text d_need_text
  g_need_text : mg "need_text" = some (.ref a_need_text)
  b_need_text : Binds K d_need_text ["value", "at"] []
  a_is_signed_letter : Addr
  d_is_signed_letter : FuncData
  F_is_signed_letter : Fun K "is_signed_letter" "is_signed_letter" s_is_signed_letter a_is_signed_letter d_is_signed_letter
  g_is_signed_letter : mg "is_signed_letter" = some (.ref a_is_signed_letter)
  b_is_signed_letter : Binds K d_is_signed_letter ["value"] []
  a_need_word : Addr
  d_need_word : FuncData
  F_need_word : Fun K "need_word" "need_word" s_need_word a_need_word d_need_word
  g_need_word : mg "need_word" = some (.ref a_need_word)
  b_need_word : Binds K d_need_word ["value", "at"] []
  a_undo_each_other : Addr
  d_undo_each_other : FuncData
  F_undo_each_other : Fun K "undo_each_other" "undo_each_other" s_undo_each_other a_undo_each_other d_undo_each_other
  g_undo_each_other : mg "undo_each_other" = some (.ref a_undo_each_other)
  b_undo_each_other : Binds K d_undo_each_other ["one", "other"] []
  a_struck : Addr
  d_struck : FuncData
  F_struck : Fun K "struck" "struck" s_struck a_struck d_struck
  g_struck : mg "struck" = some (.ref a_struck)
  b_struck : Binds K d_struck ["word"] []
  a_undone : Addr
  d_undone : FuncData
  F_undone : Fun K "undone" "undone" s_undone a_undone d_undone
  g_undone : mg "undone" = some (.ref a_undone)
  b_undone : Binds K d_undone ["word"] []
  a_strike_out : Addr
  d_strike_out : FuncData
  F_strike_out : Fun K "strike_out" "strike_out" s_strike_out a_strike_out d_strike_out
  g_strike_out : mg "strike_out" = some (.ref a_strike_out)
  b_strike_out : Binds K d_strike_out ["word"] []
  a_undo_word : Addr
  d_undo_word : FuncData
  F_undo_word : Fun K "undo_word" "undo_word" s_undo_word a_undo_word d_undo_word
  g_undo_word : mg "undo_word" = some (.ref a_undo_word)
  b_undo_word : Binds K d_undo_word ["word"] []
  a_join_words : Addr
  d_join_words : FuncData
  F_join_words : Fun K "join_words" "join_words" s_join_words a_join_words d_join_words
  g_join_words : mg "join_words" = some (.ref a_join_words)
  b_join_words : Binds K d_join_words ["one", "other"] []
  a_strike_pairs : Addr
  d_strike_pairs : FuncData
  F_strike_pairs : Fun K "strike_pairs" "strike_pairs" s_strike_pairs a_strike_pairs d_strike_pairs
  g_strike_pairs : mg "strike_pairs" = some (.ref a_strike_pairs)
  b_strike_pairs : Binds K d_strike_pairs ["word"] []
  a_partners_or_none : Addr
  d_partners_or_none : FuncData
  F_partners_or_none : Fun K "partners_or_none" "partners_or_none" s_partners_or_none a_partners_or_none d_partners_or_none
  g_partners_or_none : mg "partners_or_none" = some (.ref a_partners_or_none)
  b_partners_or_none : Binds K d_partners_or_none ["word", "value"] []
  a_strikes_hold : Addr
  d_strikes_hold : FuncData
  F_strikes_hold : Fun K "strikes_hold" "strikes_hold" s_strikes_hold a_strikes_hold d_strikes_hold
  g_strikes_hold : mg "strikes_hold" = some (.ref a_strikes_hold)
  b_strikes_hold : Binds K d_strikes_hold ["word", "value"] []
  a_word_of : Addr
  d_word_of : FuncData
  F_word_of : Fun K "word_of" "word_of" s_word_of a_word_of d_word_of
  g_word_of : mg "word_of" = some (.ref a_word_of)
  b_word_of : Binds K d_word_of ["text"] []
  a_text_of : Addr
  d_text_of : FuncData
  F_text_of : Fun K "text_of" "text_of" s_text_of a_text_of d_text_of
  g_text_of : mg "text_of" = some (.ref a_text_of)
  b_text_of : Binds K d_text_of ["word"] []
  a_text_word : Addr
  d_text_word : FuncData
  F_text_word : Fun K "text_word" "text_word" s_text_word a_text_word d_text_word
  g_text_word : mg "text_word" = some (.ref a_text_word)
  b_text_word : Binds K d_text_word ["text"] []
  a_word_text : Addr
  d_word_text : FuncData
  F_word_text : Fun K "word_text" "word_text" s_word_text a_word_text d_word_text
  g_word_text : mg "word_text" = some (.ref a_word_text)
  b_word_text : Binds K d_word_text ["word"] []
  a_law_box : Addr
  d_law_box : FuncData
  F_law_box : Fun K "_law_box" "_law_box" s_law_box a_law_box d_law_box
  g_law_box : mg "_law_box" = some (.ref a_law_box)
  b_law_box : Binds K d_law_box ["script", "k"] []
  a_law_take : Addr
  d_law_take : FuncData
  F_law_take : Fun K "_law_take" "_law_take" s_law_take a_law_take d_law_take
  g_law_take : mg "_law_take" = some (.ref a_law_take)
  b_law_take : Binds K d_law_take ["box", "many"] []
  a_law_pick : Addr
  d_law_pick : FuncData
  F_law_pick : Fun K "_law_pick" "_law_pick" s_law_pick a_law_pick d_law_pick
  g_law_pick : mg "_law_pick" = some (.ref a_law_pick)
  b_law_pick : Binds K d_law_pick ["box", "some"] []
  a_law_word : Addr
  d_law_word : FuncData
  F_law_word : Fun K "_law_word" "_law_word" s_law_word a_law_word d_law_word
  g_law_word : mg "_law_word" = some (.ref a_law_word)
  b_law_word : Binds K d_law_word ["box", "letters"] []
  a_law_struck : Addr
  d_law_struck : FuncData
  F_law_struck : Fun K "_law_struck" "_law_struck" s_law_struck a_law_struck d_law_struck
  g_law_struck : mg "_law_struck" = some (.ref a_law_struck)
  b_law_struck : Binds K d_law_struck ["box", "word"] []
  a_law_pairs_right : Addr
  d_law_pairs_right : FuncData
  F_law_pairs_right : Fun K "_law_pairs_right" "_law_pairs_right" s_law_pairs_right a_law_pairs_right d_law_pairs_right
  g_law_pairs_right : mg "_law_pairs_right" = some (.ref a_law_pairs_right)
  b_law_pairs_right : Binds K d_law_pairs_right ["word", "pairs"] []
  a_law_spoilt : Addr
  d_law_spoilt : FuncData
  F_law_spoilt : Fun K "_law_spoilt" "_law_spoilt" s_law_spoilt a_law_spoilt d_law_spoilt
  g_law_spoilt : mg "_law_spoilt" = some (.ref a_law_spoilt)
  b_law_spoilt : Binds K d_law_spoilt ["box", "many", "pairs"] []
  a_law_refused : Addr
  d_law_refused : FuncData
  F_law_refused : Fun K "_law_refused" "_law_refused" s_law_refused a_law_refused d_law_refused
  g_law_refused : mg "_law_refused" = some (.ref a_law_refused)
  b_law_refused : Binds K d_law_refused ["call", "value"] []
  a_law_refusals_right : Addr
  d_law_refusals_right : FuncData
  F_law_refusals_right : Fun K "_law_refusals_right" "_law_refusals_right" s_law_refusals_right a_law_refusals_right d_law_refusals_right
  g_law_refusals_right : mg "_law_refusals_right" = some (.ref a_law_refusals_right)
  b_law_refusals_right : Binds K d_law_refusals_right ["box", "word"] []
  a_law_word_right : Addr
  d_law_word_right : FuncData
  F_law_word_right : Fun K "_law_word_right" "_law_word_right" s_law_word_right a_law_word_right d_law_word_right
  g_law_word_right : mg "_law_word_right" = some (.ref a_law_word_right)
  b_law_word_right : Binds K d_law_word_right ["box", "word"] []
  a_law : Addr
  d_law : FuncData
  F_law : Fun K "law" "law" s_law a_law d_law
  g_law : mg "law" = some (.ref a_law)
  b_law : Binds K d_law ["script"] []
  kb_strike_out_0_word : KBinds K d_strike_out ["word"] ["word"] (gP [0] 0 1) (gP [0] 0 1)
  kb_undo_word_0_word : KBinds K d_undo_word ["word"] ["word"] (gP [0] 0 1) (gP [0] 0 1)
  kb_join_words_0_one_other : KBinds K d_join_words ["one", "other"] ["one", "other"] (gP [0, 1] 0 2) (gP [0, 1] 0 2)
  kb_strike_pairs_0_word : KBinds K d_strike_pairs ["word"] ["word"] (gP [0] 0 1) (gP [0] 0 1)
  kb_strikes_hold_0_word_value : KBinds K d_strikes_hold ["word", "value"] ["word", "value"] (gP [0, 1] 0 2) (gP [0, 1] 0 2)
  kb_word_text_0_word : KBinds K d_word_text ["word"] ["word"] (gP [0] 0 1) (gP [0] 0 1)
  kb_text_word_0_text : KBinds K d_text_word ["text"] ["text"] (gP [0] 0 1) (gP [0] 0 1)
section
variable {P : Program} {w : World} {K : PySem.W.Frag} {mg : Str → Option Value} {base : Heap}
theorem ok_is_integer (T : Tx K mg) : FnG P w K mg base 1 T.a_is_integer T.d_is_integer ["value"] (spF 1 K T.xc m_is_integer) := by
  refine fn_sem T.F_is_integer sc_is_integer rfl rfl fun cd A o s H E hg hr => ?_
  refine ⟨_, (pss_one (ps_ret (pe_and (pe_callB (k_isi K (by rfl)) (by rfl) T.m_isinstance (by decide +kernel) (pa_cons (pv 0) (pa_cons (pe_bltn (v := .ty "int") (by rfl) T.m_int (by decide +kernel) rfl) pa_nil))) (pe_one (pe_not (pe_callB (k_isi K (by rfl)) (by rfl) T.m_isinstance (by decide +kernel) (pa_cons (pv 0) (pa_cons (pe_bltn (v := .ty "bool") (by rfl) T.m_bool (by decide +kernel) rfl) pa_nil)))))))), fun vs => ?_⟩
  exact (sem_ret (sem_andV (sem_isi (T := "int") (by decide) (sem_var 0)) (sem_notV (sem_isi (T := "bool") (by decide) (sem_var 0)))))
theorem ok_is_number (T : Tx K mg) : FnG P w K mg base 2 T.a_is_number T.d_is_number ["value"] (spF 1 K T.xc m_is_number) := by
  refine fn_sem T.F_is_number sc_is_number rfl rfl fun cd A o s H E hg hr => ?_
  refine ⟨_, (pss_one (ps_ret (pe_and (pe_cl (E := atE (fun cls d _ H => E cls d H)) (ok_is_integer (P := P) (w := w) (base := base) T) hg (hr.mono (by decide)) (by rfl) T.g_is_integer T.F_is_integer.kp T.b_is_integer (fun σ => passAt (takes_of rfl rfl rfl rfl) σ) (pa_cons (pv 0) pa_nil)) (pe_one (pe_cmpR op_ge (pv 0) pe_int (nomark _)))))), fun vs => ?_⟩
  exact (sem_ret (sem_andV (sem_cl (sem_consD (sem_var 0) sem_nilD)) (sem_op ov_ge (sem_var 0) (sem_int 0))))
theorem ok_is_number_below (T : Tx K mg) : FnG P w K mg base 3 T.a_is_number_below T.d_is_number_below ["value", "limit"] (spF 2 K T.xc m_is_number_below) := by
  refine fn_sem T.F_is_number_below sc_is_number_below rfl rfl fun cd A o s H E hg hr => ?_
  refine ⟨_, (pss_one (ps_ret (pe_and (pe_cl (E := atE (fun cls d _ H => E cls d H)) (ok_is_number (P := P) (w := w) (base := base) T) hg (hr.mono (by decide)) (by rfl) T.g_is_number T.F_is_number.kp T.b_is_number (fun σ => passAt (takes_of rfl rfl rfl rfl) σ) (pa_cons (pv 0) pa_nil)) (pe_one (pe_cmpR op_lt (pv 0) (pv 1) (nomark _)))))), fun vs => ?_⟩
  exact (sem_ret (sem_andV (sem_cl (sem_consD (sem_var 0) sem_nilD)) (sem_op ov_lt (sem_var 0) (sem_var 1))))
theorem ok_is_sequence (T : Tx K mg) : FnG P w K mg base 1 T.a_is_sequence T.d_is_sequence ["value"] (spF 1 K T.xc m_is_sequence) := by
  refine fn_sem T.F_is_sequence sc_is_sequence rfl rfl fun cd A o s H E hg hr => ?_
  refine ⟨_, (pss_one (ps_ret (pe_callB (k_isiT K (by rfl)) (by rfl) T.m_isinstance (by decide +kernel) (pa_cons (pv 0) (pa_cons (pe_tup (pa_cons (pe_bltn (v := .ty "list") (by rfl) T.m_list (by decide +kernel) rfl) (pa_cons (pe_bltn (v := .ty "tuple") (by rfl) T.m_tuple (by decide +kernel) rfl) pa_nil))) pa_nil))))), fun vs => ?_⟩
  exact (sem_ret (sem_isi2 (T := "list") (U := "tuple") (by decide) (by decide) (sem_var 0)))
theorem ok_is_row_of (T : Tx K mg) : FnG P w K mg base 2 T.a_is_row_of T.d_is_row_of ["value", "many"] (spF 2 K T.xc m_is_row_of) := by
  refine fn_sem T.F_is_row_of sc_is_row_of rfl rfl fun cd A o s H E hg hr => ?_
  refine ⟨_, (pss_one (ps_ret (pe_and (pe_cl (E := atE (fun cls d _ H => E cls d H)) (ok_is_sequence (P := P) (w := w) (base := base) T) hg (hr.mono (by decide)) (by rfl) T.g_is_sequence T.F_is_sequence.kp T.b_is_sequence (fun σ => passAt (takes_of rfl rfl rfl rfl) σ) (pa_cons (pv 0) pa_nil)) (pe_one (pe_cmpR (k_eq K (by rfl) (hr.u 64)) (pe_callB (k_len K (by rfl)) (by rfl) T.m_len (by decide +kernel) (pa_cons (pv 0) pa_nil)) (pv 1) (nomark _)))))), fun vs => ?_⟩
  exact (sem_ret (sem_andV (sem_cl (sem_consD (sem_var 0) sem_nilD)) (sem_op ov_eq (sem_call cv_len (sem_cons (sem_var 0) sem_nil)) (sem_var 1))))
theorem ok_is_tuple_of (T : Tx K mg) : FnG P w K mg base 1 T.a_is_tuple_of T.d_is_tuple_of ["value", "many"] (spF 2 K T.xc m_is_tuple_of) := by
  refine fn_sem T.F_is_tuple_of sc_is_tuple_of rfl rfl fun cd A o s H E hg hr => ?_
  refine ⟨_, (pss_one (ps_ret (pe_and (pe_callB (k_isi K (by rfl)) (by rfl) T.m_isinstance (by decide +kernel) (pa_cons (pv 0) (pa_cons (pe_bltn (v := .ty "tuple") (by rfl) T.m_tuple (by decide +kernel) rfl) pa_nil))) (pe_one (pe_cmpR (k_eq K (by rfl) (hr.u 64)) (pe_callB (k_len K (by rfl)) (by rfl) T.m_len (by decide +kernel) (pa_cons (pv 0) pa_nil)) (pv 1) (nomark _)))))), fun vs => ?_⟩
  exact (sem_ret (sem_andV (sem_isi (T := "tuple") (by decide) (sem_var 0)) (sem_op ov_eq (sem_call cv_len (sem_cons (sem_var 0) sem_nil)) (sem_var 1))))
theorem ok_is_letter (T : Tx K mg) : FnG P w K mg base 4 T.a_is_letter T.d_is_letter ["value"] (spF 1 K T.xc m_is_letter) := by
  refine fn_sem T.F_is_letter sc_is_letter rfl rfl fun cd A o s H E hg hr => ?_
  refine ⟨_, (pss_one (ps_ret (pe_cl (E := atE (fun cls d _ H => E cls d H)) (ok_is_number_below (P := P) (w := w) (base := base) T) hg (hr.mono (by decide)) (by rfl) T.g_is_number_below T.F_is_number_below.kp T.b_is_number_below (fun σ => passAt (takes_of rfl rfl rfl rfl) σ) (pa_cons (pv 0) (pa_cons pe_int pa_nil))))), fun vs => ?_⟩
  exact (sem_ret (sem_cl (sem_consD (sem_var 0) (sem_consD (sem_int 100) sem_nilD))))
theorem ok_text_or_none (T : Tx K mg) : FnG P w K mg base 5 T.a_text_or_none T.d_text_or_none ["value"] (spF 1 K T.xc m_text_or_none) := by
  refine fn_sem T.F_text_or_none sc_text_or_none rfl rfl fun cd A o s H E hg hr => ?_
  refine ⟨_, (pss_cons (ps_if (pt_not (pt_val (pe_cl (E := atE (fun cls d _ H => E cls d H)) (ok_is_sequence (P := P) (w := w) (base := base) T) hg (hr.mono (by decide)) (by rfl) T.g_is_sequence T.F_is_sequence.kp T.b_is_sequence (fun σ => passAt (takes_of rfl rfl rfl rfl) σ) (pa_cons (pv 0) pa_nil))))
    (pss_one (ps_ret pe_non))
    pss_nil)
    (pss_cons (ps_for (passes_of rfl) rfl (k_sq K (by rfl) (pv 0)) (pgn 1 (by exact sc_text_or_none.nd) (by rfl) (by first | exact .inl rfl | exact .inr rfl) (by first | exact .inr rfl | exact .inl rfl))
    (pss_one (ps_if (pt_not (pt_val (pe_cl (E := atE (fun cls d _ H => E cls d H)) (ok_is_letter (P := P) (w := w) (base := base) T) hg (hr.mono (by decide)) (by rfl) T.g_is_letter T.F_is_letter.kp T.b_is_letter (fun σ => passAt (takes_of rfl rfl rfl rfl) σ) (pa_cons (pv 1) pa_nil))))
    (pss_one (ps_ret pe_non))
    pss_nil)))
    (pss_one (ps_ret (k_tuple K (by rfl) (by rfl) T.m_tuple (pv 0) (by rfl)))))), fun vs => ?_⟩
  exact (sem_seq (sem_ite (sem_not (sem_tst (sem_cl (sem_consD (sem_var 0) sem_nilD))))
    (sem_ret sem_non)
    sem_next)
    (sem_seq (sem_for (sem_sq (sem_var 0)) sem_name
    (sem_ite (sem_not (sem_tst (sem_cl (sem_consD (sem_var 1) sem_nilD))))
    (sem_ret sem_non)
    sem_next))
    (sem_ret (sem_tupleOf (sem_var 0)))))
theorem ok_need_text (T : Tx K mg) : FnG P w K mg base 6 T.a_need_text T.d_need_text ["value", "at"] (spF 2 K T.xc m_need_text) := by
  refine fn_sem T.F_need_text sc_need_text rfl rfl fun cd A o s H E hg hr => ?_
  refine ⟨_, (pss_cons (ps_set (i := 2) sc_need_text.nd rfl (by first | exact .inl rfl | exact .inr rfl) (pe_cl (E := atE (fun cls d _ H => E cls d H)) (ok_text_or_none (P := P) (w := w) (base := base) T) hg (hr.mono (by decide)) (by rfl) T.g_text_or_none T.F_text_or_none.kp T.b_text_or_none (fun σ => passAt (takes_of rfl rfl rfl rfl) σ) (pa_cons (pv 0) pa_nil)))
    (pss_cons (ps_if (pt_cmpR op_isN (pv 2) pe_non (nomark _))
    (pss_one (ps_rse rfl T.e0 (hr.mono (Nat.zero_le _)) (takes_of rfl rfl rfl rfl) (pa_cons (pv 1) pa_nil) (by rfl) (by decide)))
    pss_nil)
    (pss_one (ps_ret (pv 2))))), fun vs => ?_⟩
  exact (sem_seq (sem_asg (sem_cl (sem_consD (sem_var 0) sem_nilD)))
    (sem_seq (sem_ite (sem_tst (sem_isNO (sem_var 2)))
    (sem_rse (tag := 0) T.xe0 (sem_consD (sem_var 1) sem_nilD))
    sem_next)
    (sem_ret (sem_var 2))))
theorem ok_is_signed_letter (T : Tx K mg) : FnG P w K mg base 5 T.a_is_signed_letter T.d_is_signed_letter ["value"] (spF 1 K T.xc m_is_signed_letter) := by
  refine fn_sem T.F_is_signed_letter sc_is_signed_letter rfl rfl fun cd A o s H E hg hr => ?_
  refine ⟨_, (pss_cons (ps_if (pt_not (pt_val (pe_cl (E := atE (fun cls d _ H => E cls d H)) (ok_is_row_of (P := P) (w := w) (base := base) T) hg (hr.mono (by decide)) (by rfl) T.g_is_row_of T.F_is_row_of.kp T.b_is_row_of (fun σ => passAt (takes_of rfl rfl rfl rfl) σ) (pa_cons (pv 0) (pa_cons pe_int pa_nil)))))
    (pss_one (ps_ret pe_bl))
    pss_nil)
    (pss_one (ps_ret (pe_and (pe_cl (E := atE (fun cls d _ H => E cls d H)) (ok_is_letter (P := P) (w := w) (base := base) T) hg (hr.mono (by decide)) (by rfl) T.g_is_letter T.F_is_letter.kp T.b_is_letter (fun σ => passAt (takes_of rfl rfl rfl rfl) σ) (pa_cons (pe_ix (k_ix K (by rfl)) (pv 0) pe_int (fun _ _ => rfl)) pa_nil)) (pe_and (pe_cl (E := atE (fun cls d _ H => E cls d H)) (ok_is_integer (P := P) (w := w) (base := base) T) hg (hr.mono (by decide)) (by rfl) T.g_is_integer T.F_is_integer.kp T.b_is_integer (fun σ => passAt (takes_of rfl rfl rfl rfl) σ) (pa_cons (pe_ix (k_ix K (by rfl)) (pv 0) pe_int (fun _ _ => rfl)) pa_nil)) (pe_one (pe_cmpR (k_inT K (by rfl)) (pe_ix (k_ix K (by rfl)) (pv 0) pe_int (fun _ _ => rfl)) (pe_tup (pa_cons pe_int (pa_cons (pe_un un_neg pe_int) pa_nil))) (by rfl)))))))), fun vs => ?_⟩
  exact (sem_seq (sem_ite (sem_not (sem_tst (sem_cl (sem_consD (sem_var 0) (sem_consD (sem_int 2) sem_nilD)))))
    (sem_ret (sem_bl false))
    sem_next)
    (sem_ret (sem_andV (sem_cl (sem_consD (sem_op ov_ix (sem_var 0) (sem_int 0)) sem_nilD)) (sem_andV (sem_cl (sem_consD (sem_op ov_ix (sem_var 0) (sem_int 1)) sem_nilD)) (sem_op ov_inT (sem_op ov_ix (sem_var 0) (sem_int 1)) (sem_tup (sem_consD (sem_int 1) (sem_consD (sem_neg (sem_int 1)) sem_nilD))))))))
theorem ok_need_word (T : Tx K mg) : FnG P w K mg base 6 T.a_need_word T.d_need_word ["value", "at"] (spF 2 K T.xc m_need_word) := by
  refine fn_sem T.F_need_word sc_need_word rfl rfl fun cd A o s H E hg hr => ?_
  refine ⟨_, (pss_cons (ps_if (pt_not (pt_val (pe_cl (E := atE (fun cls d _ H => E cls d H)) (ok_is_sequence (P := P) (w := w) (base := base) T) hg (hr.mono (by decide)) (by rfl) T.g_is_sequence T.F_is_sequence.kp T.b_is_sequence (fun σ => passAt (takes_of rfl rfl rfl rfl) σ) (pa_cons (pv 0) pa_nil))))
    (pss_one (ps_rse rfl T.e1 (hr.mono (Nat.zero_le _)) (takes_of rfl rfl rfl rfl) (pa_cons (pv 1) pa_nil) (by rfl) (by decide)))
    pss_nil)
    (pss_cons (ps_for (passes_of rfl) rfl (k_sq K (by rfl) (pv 0)) (pgn 2 (by exact sc_need_word.nd) (by rfl) (by first | exact .inl rfl | exact .inr rfl) (by first | exact .inr rfl | exact .inl rfl))
    (pss_one (ps_if (pt_not (pt_val (pe_cl (E := atE (fun cls d _ H => E cls d H)) (ok_is_signed_letter (P := P) (w := w) (base := base) T) hg (hr.mono (by decide)) (by rfl) T.g_is_signed_letter T.F_is_signed_letter.kp T.b_is_signed_letter (fun σ => passAt (takes_of rfl rfl rfl rfl) σ) (pa_cons (pv 2) pa_nil))))
    (pss_one (ps_rse rfl T.e1 (hr.mono (Nat.zero_le _)) (takes_of rfl rfl rfl rfl) (pa_cons (pv 1) pa_nil) (by rfl) (by decide)))
    pss_nil)))
    (pss_one (ps_ret (k_tuple K (by rfl) (by rfl) T.m_tuple (by exact (pe_lc (own := [("pair", 2)]) rfl sc_need_word.nd (k_sq K (by rfl) (pv 0)) (blkOk_by (N := N_need_word) (sc := defScope s_need_word) (by decide +kernel)) (fun _ _ _ _ _ => by exact (pgn 2 (by exact sc_need_word.nd) (by rfl) (by first | exact .inl rfl | exact .inr rfl) (by first | exact .inr rfl | exact .inl rfl))) (fun _ _ _ _ _ => by exact pts_nil) (fun _ _ _ _ _ => by exact (pe_tup (pa_cons (pe_ix (k_ix K (by rfl)) (pv 2) pe_int (fun _ _ => rfl)) (pa_cons (pe_ix (k_ix K (by rfl)) (pv 2) pe_int (fun _ _ => rfl)) pa_nil)))))) (by rfl)))))), fun vs => ?_⟩
  exact (sem_seq (sem_ite (sem_not (sem_tst (sem_cl (sem_consD (sem_var 0) sem_nilD))))
    (sem_rse (tag := 1) T.xe1 (sem_consD (sem_var 1) sem_nilD))
    sem_next)
    (sem_seq (sem_for (sem_sq (sem_var 0)) sem_name
    (sem_ite (sem_not (sem_tst (sem_cl (sem_consD (sem_var 2) sem_nilD))))
    (sem_rse (tag := 1) T.xe1 (sem_consD (sem_var 1) sem_nilD))
    sem_next))
    (sem_ret (sem_tupleOf (sem_lc (vs := [2]) (sem_sq (sem_var 0)) sem_name sem_yes (sem_tup (sem_consD (sem_op ov_ix (sem_var 2) (sem_int 0)) (sem_consD (sem_op ov_ix (sem_var 2) (sem_int 1)) sem_nilD))) (by decide))))))
theorem ok_undo_each_other (T : Tx K mg) : FnG P w K mg base 1 T.a_undo_each_other T.d_undo_each_other ["one", "other"] (spF 2 K T.xc m_undo_each_other) := by
  refine fn_sem T.F_undo_each_other sc_undo_each_other rfl rfl fun cd A o s H E hg hr => ?_
  refine ⟨_, (pss_one (ps_ret (pe_and (pe_cmpR (k_eq K (by rfl) (hr.u 64)) (pe_ix (k_ix K (by rfl)) (pv 0) pe_int (fun _ _ => rfl)) (pe_ix (k_ix K (by rfl)) (pv 1) pe_int (fun _ _ => rfl)) (nomark _)) (pe_one (pe_cmpR (k_ne K (by rfl) (hr.u 64)) (pe_ix (k_ix K (by rfl)) (pv 0) pe_int (fun _ _ => rfl)) (pe_ix (k_ix K (by rfl)) (pv 1) pe_int (fun _ _ => rfl)) (nomark _)))))), fun vs => ?_⟩
  exact (sem_ret (sem_andV (sem_op ov_eq (sem_op ov_ix (sem_var 0) (sem_int 0)) (sem_op ov_ix (sem_var 1) (sem_int 0))) (sem_op ov_ne (sem_op ov_ix (sem_var 0) (sem_int 1)) (sem_op ov_ix (sem_var 1) (sem_int 1)))))
theorem ok_struck (T : Tx K mg) : FnG P w K mg base 2 T.a_struck T.d_struck ["word"] (spF 1 K T.xc m_struck) := by
  refine fn_sem T.F_struck sc_struck rfl rfl fun cd A o s H E hg hr => ?_
  refine ⟨_, (pss_cons (ps_set (i := 1) sc_struck.nd rfl (by first | exact .inl rfl | exact .inr rfl) (pe_lst pa_nil))
    (pss_cons (ps_for (passes_of rfl) rfl (k_sq K (by rfl) (pv 0)) (pgn 2 (by exact sc_struck.nd) (by rfl) (by first | exact .inl rfl | exact .inr rfl) (by first | exact .inr rfl | exact .inl rfl))
    (pss_one (ps_if (PW.pt (pw_and (k_truth K (by rfl) (pv 1) (by intro _; rfl)) (pw_and1 (pt_val (pe_cl (E := atE (fun cls d _ H => E cls d H)) (ok_undo_each_other (P := P) (w := w) (base := base) T) hg (hr.mono (by decide)) (by rfl) T.g_undo_each_other T.F_undo_each_other.kp T.b_undo_each_other (fun σ => passAt (takes_of rfl rfl rfl rfl) σ) (pa_cons (pe_ix (k_ix K (by rfl)) (pv 1) (pe_un un_neg pe_int) (fun _ _ => rfl)) (pa_cons (pv 2) pa_nil)))))))
    (pss_one (ps_expr (pe_bm0 PySem.F.plainAttrs_list PySem.F.slot_list_pop PySem.F.type_list_pop mt_pop (pv 1))))
    (pss_one (ps_expr (pe_bm PySem.F.plainAttrs_list PySem.F.slot_list_append PySem.F.type_list_append mt_append (pv 1) (pa_cons (pv 2) pa_nil)))))))
    (pss_one (ps_ret (k_tuple K (by rfl) (by rfl) T.m_tuple (pv 1) (by rfl)))))), fun vs => ?_⟩
  exact (sem_seq (sem_asg (sem_lst sem_nilD))
    (sem_seq (sem_for (sem_sq (sem_var 0)) sem_name
    (sem_ite (sem_and (sem_tru (sem_var 1)) (sem_tst (sem_cl (sem_consD (sem_op ov_ix (sem_var 1) (sem_neg (sem_int 1))) (sem_consD (sem_var 2) sem_nilD)))))
    (sem_drop (sem_mut0 mv_pop))
    (sem_drop (sem_mut mv_append (sem_consD (sem_var 2) sem_nilD)))))
    (sem_ret (sem_tupleOf (sem_var 1)))))
theorem ok_undone (T : Tx K mg) : FnG P w K mg base 1 T.a_undone T.d_undone ["word"] (spF 1 K T.xc m_undone) := by
  refine fn_sem T.F_undone sc_undone rfl rfl fun cd A o s H E hg hr => ?_
  refine ⟨_, (pss_one (ps_ret (k_tuple K (by rfl) (by rfl) T.m_tuple (by exact (pe_lc (own := [("letter", 1), ("sign", 2)]) rfl sc_undone.nd (k_sq K (by rfl) (k_stp K (by rfl) (pv 0) (po_some (pe_un un_neg pe_int)) (by intro _ _; with_unfolding_all rfl))) (blkOk_by (N := N_undone) (sc := defScope s_undone) (by decide +kernel)) (fun _ _ _ _ _ => by exact (pgt K 2 (pgc (pgn 1 (by exact sc_undone.nd) (by rfl) (by first | exact .inl rfl | exact .inr rfl) (by first | exact .inr rfl | exact .inl rfl)) (pgc (pgn 2 (by exact sc_undone.nd) (by rfl) (by first | exact .inl rfl | exact .inr rfl) (by first | exact .inr rfl | exact .inl rfl)) pgs_nil (by rfl)) (by rfl)) (by rfl) (by rfl) (by rfl) (by rfl))) (fun _ _ _ _ _ => by exact pts_nil) (fun _ _ _ _ _ => by exact (pe_tup (pa_cons (pv 1) (pa_cons (pe_un un_neg (pv 2)) pa_nil)))))) (by rfl)))), fun vs => ?_⟩
  exact (sem_ret (sem_tupleOf (sem_lc (vs := [1, 2]) (sem_sq (sem_stp (sem_var 0) (sem_parO (sem_neg (sem_int 1))))) (sem_gu (sem_gcons sem_name (sem_gcons sem_name sem_gnil))) sem_yes (sem_tup (sem_consD (sem_var 1) (sem_consD (sem_neg (sem_var 2)) sem_nilD))) (by decide))))
theorem ok_strike_out (T : Tx K mg) : FnG P w K mg base 7 T.a_strike_out T.d_strike_out ["word"] (spF 1 K T.xc m_strike_out) := by
  refine fn_sem T.F_strike_out sc_strike_out rfl rfl fun cd A o s H E hg hr => ?_
  refine ⟨_, (pss_one (ps_ret (pe_cl (E := atE (fun cls d _ H => E cls d H)) (ok_struck (P := P) (w := w) (base := base) T) hg (hr.mono (by decide)) (by rfl) T.g_struck T.F_struck.kp T.b_struck (fun σ => passAt (takes_of rfl rfl rfl rfl) σ) (pa_cons (pe_cl (E := atE (fun cls d _ H => E cls d H)) (ok_need_word (P := P) (w := w) (base := base) T) hg (hr.mono (by decide)) (by rfl) T.g_need_word T.F_need_word.kp T.b_need_word (fun σ => passAt (takes_of rfl rfl rfl rfl) σ) (pa_cons (pv 0) (pa_cons (pe_un un_neg pe_int) pa_nil))) pa_nil)))), fun vs => ?_⟩
  exact (sem_ret (sem_cl (sem_consD (sem_cl (sem_consD (sem_var 0) (sem_consD (sem_neg (sem_int 1)) sem_nilD))) sem_nilD)))
theorem ok_undo_word (T : Tx K mg) : FnG P w K mg base 7 T.a_undo_word T.d_undo_word ["word"] (spF 1 K T.xc m_undo_word) := by
  refine fn_sem T.F_undo_word sc_undo_word rfl rfl fun cd A o s H E hg hr => ?_
  refine ⟨_, (pss_one (ps_ret (pe_cl (E := atE (fun cls d _ H => E cls d H)) (ok_undone (P := P) (w := w) (base := base) T) hg (hr.mono (by decide)) (by rfl) T.g_undone T.F_undone.kp T.b_undone (fun σ => passAt (takes_of rfl rfl rfl rfl) σ) (pa_cons (pe_cl (E := atE (fun cls d _ H => E cls d H)) (ok_need_word (P := P) (w := w) (base := base) T) hg (hr.mono (by decide)) (by rfl) T.g_need_word T.F_need_word.kp T.b_need_word (fun σ => passAt (takes_of rfl rfl rfl rfl) σ) (pa_cons (pv 0) (pa_cons (pe_un un_neg pe_int) pa_nil))) pa_nil)))), fun vs => ?_⟩
  exact (sem_ret (sem_cl (sem_consD (sem_cl (sem_consD (sem_var 0) (sem_consD (sem_neg (sem_int 1)) sem_nilD))) sem_nilD)))
theorem ok_join_words (T : Tx K mg) : FnG P w K mg base 7 T.a_join_words T.d_join_words ["one", "other"] (spF 2 K T.xc m_join_words) := by
  refine fn_sem T.F_join_words sc_join_words rfl rfl fun cd A o s H E hg hr => ?_
  refine ⟨_, (pss_cons (ps_set (i := 2) sc_join_words.nd rfl (by first | exact .inl rfl | exact .inr rfl) (pe_cl (E := atE (fun cls d _ H => E cls d H)) (ok_need_word (P := P) (w := w) (base := base) T) hg (hr.mono (by decide)) (by rfl) T.g_need_word T.F_need_word.kp T.b_need_word (fun σ => passAt (takes_of rfl rfl rfl rfl) σ) (pa_cons (pv 0) (pa_cons pe_int pa_nil))))
    (pss_one (ps_ret (pe_cl (E := atE (fun cls d _ H => E cls d H)) (ok_struck (P := P) (w := w) (base := base) T) hg (hr.mono (by decide)) (by rfl) T.g_struck T.F_struck.kp T.b_struck (fun σ => passAt (takes_of rfl rfl rfl rfl) σ) (pa_cons (pe_op (k_add K (by rfl)) (pv 2) (pe_cl (E := atE (fun cls d _ H => E cls d H)) (ok_need_word (P := P) (w := w) (base := base) T) hg (hr.mono (by decide)) (by rfl) T.g_need_word T.F_need_word.kp T.b_need_word (fun σ => passAt (takes_of rfl rfl rfl rfl) σ) (pa_cons (pv 1) (pa_cons pe_int pa_nil)))) pa_nil))))), fun vs => ?_⟩
  exact (sem_seq (sem_asg (sem_cl (sem_consD (sem_var 0) (sem_consD (sem_int 0) sem_nilD))))
    (sem_ret (sem_cl (sem_consD (sem_op ov_add (sem_var 2) (sem_cl (sem_consD (sem_var 1) (sem_consD (sem_int 1) sem_nilD)))) sem_nilD))))
theorem ok_strike_pairs (T : Tx K mg) : FnG P w K mg base 7 T.a_strike_pairs T.d_strike_pairs ["word"] (spF 1 K T.xc m_strike_pairs) := by
  refine fn_sem T.F_strike_pairs sc_strike_pairs rfl rfl fun cd A o s H E hg hr => ?_
  refine ⟨_, (pss_cons (ps_set (i := 0) sc_strike_pairs.nd rfl (by first | exact .inl rfl | exact .inr rfl) (pe_cl (E := atE (fun cls d _ H => E cls d H)) (ok_need_word (P := P) (w := w) (base := base) T) hg (hr.mono (by decide)) (by rfl) T.g_need_word T.F_need_word.kp T.b_need_word (fun σ => passAt (takes_of rfl rfl rfl rfl) σ) (pa_cons (pv 0) (pa_cons (pe_un un_neg pe_int) pa_nil))))
    (pss_cons (ps_set (i := 1) sc_strike_pairs.nd rfl (by first | exact .inl rfl | exact .inr rfl) (pe_lst pa_nil))
    (pss_cons (ps_set (i := 2) sc_strike_pairs.nd rfl (by first | exact .inl rfl | exact .inr rfl) (pe_lst pa_nil))
    (pss_cons (ps_for (passes_of rfl) rfl (k_enum K (by rfl) (by rfl) T.m_enumerate (pa_cons (pv 0) pa_nil) (by rfl)) (pgt K 2 (pgc (pgn 3 (by exact sc_strike_pairs.nd) (by rfl) (by first | exact .inl rfl | exact .inr rfl) (by first | exact .inr rfl | exact .inl rfl)) (pgc (pgn 4 (by exact sc_strike_pairs.nd) (by rfl) (by first | exact .inl rfl | exact .inr rfl) (by first | exact .inr rfl | exact .inl rfl)) pgs_nil (by rfl)) (by rfl)) (by rfl) (by rfl) (by rfl) (by rfl))
    (pss_one (ps_if (PW.pt (pw_and (k_truth K (by rfl) (pv 1) (by intro _; rfl)) (pw_and1 (pt_val (pe_cl (E := atE (fun cls d _ H => E cls d H)) (ok_undo_each_other (P := P) (w := w) (base := base) T) hg (hr.mono (by decide)) (by rfl) T.g_undo_each_other T.F_undo_each_other.kp T.b_undo_each_other (fun σ => passAt (takes_of rfl rfl rfl rfl) σ) (pa_cons (pe_ix (k_ix K (by rfl)) (pv 0) (pe_ix (k_ix K (by rfl)) (pv 1) (pe_un un_neg pe_int) (fun _ _ => rfl)) (fun _ _ => rfl)) (pa_cons (pv 4) pa_nil)))))))
    (pss_one (ps_expr (pe_bm PySem.F.plainAttrs_list PySem.F.slot_list_append PySem.F.type_list_append mt_append (pv 2) (pa_cons (pe_tup (pa_cons (pe_bm0 PySem.F.plainAttrs_list PySem.F.slot_list_pop PySem.F.type_list_pop mt_pop (pv 1)) (pa_cons (pv 3) pa_nil))) pa_nil))))
    (pss_one (ps_expr (pe_bm PySem.F.plainAttrs_list PySem.F.slot_list_append PySem.F.type_list_append mt_append (pv 1) (pa_cons (pv 3) pa_nil)))))))
    (pss_one (ps_ret (k_tuple K (by rfl) (by rfl) T.m_tuple (pe_callB (k_sorted K (by rfl)) (by rfl) T.m_sorted (by decide +kernel) (pa_cons (pv 2) pa_nil)) (by rfl)))))))), fun vs => ?_⟩
  exact (sem_seq (sem_asg (sem_cl (sem_consD (sem_var 0) (sem_consD (sem_neg (sem_int 1)) sem_nilD))))
    (sem_seq (sem_asg (sem_lst sem_nilD))
    (sem_seq (sem_asg (sem_lst sem_nilD))
    (sem_seq (sem_for (sem_enumU (sem_var 0)) (sem_gu (sem_gcons sem_name (sem_gcons sem_name sem_gnil)))
    (sem_ite (sem_and (sem_tru (sem_var 1)) (sem_tst (sem_cl (sem_consD (sem_op ov_ix (sem_var 0) (sem_op ov_ix (sem_var 1) (sem_neg (sem_int 1)))) (sem_consD (sem_var 4) sem_nilD)))))
    (sem_drop (sem_mut mv_append (sem_consD (sem_tup (sem_consD (sem_mut0 mv_pop) (sem_consD (sem_var 3) sem_nilD))) sem_nilD)))
    (sem_drop (sem_mut mv_append (sem_consD (sem_var 3) sem_nilD)))))
    (sem_ret (sem_tupleOf (sem_call cv_sorted (sem_cons (sem_var 2) sem_nil))))))))
theorem ok_partners_or_none (T : Tx K mg) : FnG P w K mg base 2 T.a_partners_or_none T.d_partners_or_none ["word", "value"] (spF 2 K T.xc m_partners_or_none) := by
  refine fn_sem T.F_partners_or_none sc_partners_or_none rfl rfl fun cd A o s H E hg hr => ?_
  refine ⟨_, (pss_cons (ps_set (i := 2) sc_partners_or_none.nd rfl (by first | exact .inl rfl | exact .inr rfl) (pe_op (k_mulL K (by rfl)) (pe_lst (pa_cons (pe_un un_neg pe_int) pa_nil)) (pe_callB (k_len K (by rfl)) (by rfl) T.m_len (by decide +kernel) (pa_cons (pv 0) pa_nil))))
    (pss_cons (ps_set (i := 3) sc_partners_or_none.nd rfl (by first | exact .inl rfl | exact .inr rfl) (pe_tup (pa_cons (pe_un un_neg pe_int) (pa_cons (pe_un un_neg pe_int) pa_nil))))
    (pss_cons (ps_for (passes_of rfl) rfl (k_sq K (by rfl) (pv 1)) (pgn 4 (by exact sc_partners_or_none.nd) (by rfl) (by first | exact .inl rfl | exact .inr rfl) (by first | exact .inr rfl | exact .inl rfl))
    (pss_cons (ps_if (PW.pt (pw_or (pt_not (pt_val (pe_cl (E := atE (fun cls d _ H => E cls d H)) (ok_is_tuple_of (P := P) (w := w) (base := base) T) hg (hr.mono (by decide)) (by rfl) T.g_is_tuple_of T.F_is_tuple_of.kp T.b_is_tuple_of (fun σ => passAt (takes_of rfl rfl rfl rfl) σ) (pa_cons (pv 4) (pa_cons pe_int pa_nil))))) (pw_or (pt_not (pt_val (pe_cl (E := atE (fun cls d _ H => E cls d H)) (ok_is_integer (P := P) (w := w) (base := base) T) hg (hr.mono (by decide)) (by rfl) T.g_is_integer T.F_is_integer.kp T.b_is_integer (fun σ => passAt (takes_of rfl rfl rfl rfl) σ) (pa_cons (pe_ix (k_ix K (by rfl)) (pv 4) pe_int (fun _ _ => rfl)) pa_nil)))) (pw_or1 (pt_not (pt_val (pe_cl (E := atE (fun cls d _ H => E cls d H)) (ok_is_integer (P := P) (w := w) (base := base) T) hg (hr.mono (by decide)) (by rfl) T.g_is_integer T.F_is_integer.kp T.b_is_integer (fun σ => passAt (takes_of rfl rfl rfl rfl) σ) (pa_cons (pe_ix (k_ix K (by rfl)) (pv 4) pe_int (fun _ _ => rfl)) pa_nil))))))))
    (pss_one (ps_ret pe_non))
    pss_nil)
    (pss_cons (ps_asg (pv 4) (pgt K 2 (pgc (pgn 5 (by exact sc_partners_or_none.nd) (by rfl) (by first | exact .inl rfl | exact .inr rfl) (by first | exact .inr rfl | exact .inl rfl)) (pgc (pgn 6 (by exact sc_partners_or_none.nd) (by rfl) (by first | exact .inl rfl | exact .inr rfl) (by first | exact .inr rfl | exact .inl rfl)) pgs_nil (by rfl)) (by rfl)) (by rfl) (by rfl) (by rfl) (by rfl)))
    (pss_cons (ps_if (PW.pt (pw_or (pt_cmpR op_lt (pv 5) pe_int (nomark _)) (pw_or (pt_cmpR op_ge (pv 5) (pv 6) (nomark _)) (pw_or (pt_cmpR op_ge (pv 6) (pe_callB (k_len K (by rfl)) (by rfl) T.m_len (by decide +kernel) (pa_cons (pv 0) pa_nil)) (nomark _)) (pw_or1 (pt_cmpR (k_leT K (by rfl) (hr.u 0)) (pv 4) (pv 3) (nomark _)))))))
    (pss_one (ps_ret pe_non))
    pss_nil)
    (pss_cons (ps_if (PW.pt (pw_or (pt_cmpR (k_ne K (by rfl) (hr.u 64)) (pe_ix (k_ix K (by rfl)) (pv 2) (pv 5) (fun _ _ => rfl)) (pe_un un_neg pe_int) (nomark _)) (pw_or (pt_cmpR (k_ne K (by rfl) (hr.u 64)) (pe_ix (k_ix K (by rfl)) (pv 2) (pv 6) (fun _ _ => rfl)) (pe_un un_neg pe_int) (nomark _)) (pw_or1 (pt_not (pt_val (pe_cl (E := atE (fun cls d _ H => E cls d H)) (ok_undo_each_other (P := P) (w := w) (base := base) T) hg (hr.mono (by decide)) (by rfl) T.g_undo_each_other T.F_undo_each_other.kp T.b_undo_each_other (fun σ => passAt (takes_of rfl rfl rfl rfl) σ) (pa_cons (pe_ix (k_ix K (by rfl)) (pv 0) (pv 5) (fun _ _ => rfl)) (pa_cons (pe_ix (k_ix K (by rfl)) (pv 0) (pv 6) (fun _ _ => rfl)) pa_nil)))))))))
    (pss_one (ps_ret pe_non))
    pss_nil)
    (pss_cons (ps_asg (pv 6) (pg_sub (pv 2) (pv 5) set_list))
    (pss_cons (ps_asg (pv 5) (pg_sub (pv 2) (pv 6) set_list))
    (pss_one (ps_set (i := 3) sc_partners_or_none.nd rfl (by first | exact .inl rfl | exact .inr rfl) (pv 4))))))))))
    (pss_one (ps_ret (pv 2)))))), fun vs => ?_⟩
  exact (sem_seq (sem_asg (sem_op ov_mulL (sem_lst (sem_consD (sem_neg (sem_int 1)) sem_nilD)) (sem_call cv_len (sem_cons (sem_var 0) sem_nil))))
    (sem_seq (sem_asg (sem_tup (sem_consD (sem_neg (sem_int 1)) (sem_consD (sem_neg (sem_int 1)) sem_nilD))))
    (sem_seq (sem_for (sem_sq (sem_var 1)) sem_name
    (sem_seq (sem_ite (sem_or (sem_not (sem_tst (sem_cl (sem_consD (sem_var 4) (sem_consD (sem_int 2) sem_nilD))))) (sem_or (sem_not (sem_tst (sem_cl (sem_consD (sem_op ov_ix (sem_var 4) (sem_int 0)) sem_nilD)))) (sem_not (sem_tst (sem_cl (sem_consD (sem_op ov_ix (sem_var 4) (sem_int 1)) sem_nilD))))))
    (sem_ret sem_non)
    sem_next)
    (sem_seq (sem_tg (sem_gu (sem_gcons sem_name (sem_gcons sem_name sem_gnil))) (sem_var 4))
    (sem_seq (sem_ite (sem_or (sem_tst (sem_op ov_lt (sem_var 5) (sem_int 0))) (sem_or (sem_tst (sem_op ov_ge (sem_var 5) (sem_var 6))) (sem_or (sem_tst (sem_op ov_ge (sem_var 6) (sem_call cv_len (sem_cons (sem_var 0) sem_nil)))) (sem_tst (sem_op ov_leT (sem_var 4) (sem_var 3))))))
    (sem_ret sem_non)
    sem_next)
    (sem_seq (sem_ite (sem_or (sem_tst (sem_op ov_ne (sem_op ov_ix (sem_var 2) (sem_var 5)) (sem_neg (sem_int 1)))) (sem_or (sem_tst (sem_op ov_ne (sem_op ov_ix (sem_var 2) (sem_var 6)) (sem_neg (sem_int 1)))) (sem_not (sem_tst (sem_cl (sem_consD (sem_op ov_ix (sem_var 0) (sem_var 5)) (sem_consD (sem_op ov_ix (sem_var 0) (sem_var 6)) sem_nilD)))))))
    (sem_ret sem_non)
    sem_next)
    (sem_seq (sem_set (sem_var 6) (sem_var 5))
    (sem_seq (sem_set (sem_var 5) (sem_var 6))
    (sem_asg (sem_var 4)))))))))
    (sem_ret (sem_var 2)))))
theorem ok_strikes_hold (T : Tx K mg) : FnG P w K mg base 7 T.a_strikes_hold T.d_strikes_hold ["word", "value"] (spF 2 K T.xc m_strikes_hold) := by
  refine fn_sem T.F_strikes_hold sc_strikes_hold rfl rfl fun cd A o s H E hg hr => ?_
  refine ⟨_, (pss_cons (ps_set (i := 0) sc_strikes_hold.nd rfl (by first | exact .inl rfl | exact .inr rfl) (pe_cl (E := atE (fun cls d _ H => E cls d H)) (ok_need_word (P := P) (w := w) (base := base) T) hg (hr.mono (by decide)) (by rfl) T.g_need_word T.F_need_word.kp T.b_need_word (fun σ => passAt (takes_of rfl rfl rfl rfl) σ) (pa_cons (pv 0) (pa_cons (pe_un un_neg pe_int) pa_nil))))
    (pss_cons (ps_if (pt_not (pt_val (pe_callB (k_isi K (by rfl)) (by rfl) T.m_isinstance (by decide +kernel) (pa_cons (pv 1) (pa_cons (pe_bltn (v := .ty "tuple") (by rfl) T.m_tuple (by decide +kernel) rfl) pa_nil)))))
    (pss_one (ps_ret pe_bl))
    pss_nil)
    (pss_cons (ps_set (i := 2) sc_strikes_hold.nd rfl (by first | exact .inl rfl | exact .inr rfl) (pe_cl (E := atE (fun cls d _ H => E cls d H)) (ok_partners_or_none (P := P) (w := w) (base := base) T) hg (hr.mono (by decide)) (by rfl) T.g_partners_or_none T.F_partners_or_none.kp T.b_partners_or_none (fun σ => passAt (takes_of rfl rfl rfl rfl) σ) (pa_cons (pv 0) (pa_cons (pv 1) pa_nil))))
    (pss_cons (ps_if (pt_cmpR op_isN (pv 2) pe_non (nomark _))
    (pss_one (ps_ret pe_bl))
    pss_nil)
    (pss_cons (ps_for (passes_of rfl) rfl (k_sq K (by rfl) (pv 1)) (pgt K 2 (pgc (pgn 3 (by exact sc_strikes_hold.nd) (by rfl) (by first | exact .inl rfl | exact .inr rfl) (by first | exact .inr rfl | exact .inl rfl)) (pgc (pgn 4 (by exact sc_strikes_hold.nd) (by rfl) (by first | exact .inl rfl | exact .inr rfl) (by first | exact .inr rfl | exact .inl rfl)) pgs_nil (by rfl)) (by rfl)) (by rfl) (by rfl) (by rfl) (by rfl))
    (pss_one (ps_for (passes_of rfl) rfl (pi_range2 (by rfl) T.m_range (pa_cons (pe_op (k_add K (by rfl)) (pv 3) pe_int) (pa_cons (pv 4) pa_nil))) (pgn 5 (by exact sc_strikes_hold.nd) (by rfl) (by first | exact .inl rfl | exact .inr rfl) (by first | exact .inr rfl | exact .inl rfl))
    (pss_one (ps_if (PW.pt (pw_or (pt_cmpR op_le (pe_ix (k_ix K (by rfl)) (pv 2) (pv 5) (fun _ _ => rfl)) (pv 3) (nomark _)) (pw_or1 (pt_cmpR op_ge (pe_ix (k_ix K (by rfl)) (pv 2) (pv 5) (fun _ _ => rfl)) (pv 4) (nomark _)))))
    (pss_one (ps_ret pe_bl))
    pss_nil)))))
    (pss_cons (ps_set (i := 6) sc_strikes_hold.nd rfl (by first | exact .inl rfl | exact .inr rfl) (k_tuple K (by rfl) (by rfl) T.m_tuple (by exact (pe_lc (own := [("at", 7), ("pair", 8)]) rfl sc_strikes_hold.nd (k_enum K (by rfl) (by rfl) T.m_enumerate (pa_cons (pv 0) pa_nil) (by rfl)) (blkOk_by (N := N_strikes_hold) (sc := defScope s_strikes_hold) (by decide +kernel)) (fun _ _ _ _ _ => by exact (pgt K 2 (pgc (pgn 7 (by exact sc_strikes_hold.nd) (by rfl) (by first | exact .inl rfl | exact .inr rfl) (by first | exact .inr rfl | exact .inl rfl)) (pgc (pgn 8 (by exact sc_strikes_hold.nd) (by rfl) (by first | exact .inl rfl | exact .inr rfl) (by first | exact .inr rfl | exact .inl rfl)) pgs_nil (by rfl)) (by rfl)) (by rfl) (by rfl) (by rfl) (by rfl))) (fun _ _ _ _ _ => by exact (pts_one (pt_cmpR (k_eq K (by rfl) (hr.u 64)) (pe_ix (k_ix K (by rfl)) (pv 2) (pv 7) (fun _ _ => rfl)) (pe_un un_neg pe_int) (nomark _)))) (fun _ _ _ _ _ => by exact (pv 8)))) (by rfl)))
    (pss_one (ps_ret (pe_cmpR (k_eq K (by rfl) (hr.u 64)) (pe_cl (E := atE (fun cls d _ H => E cls d H)) (ok_struck (P := P) (w := w) (base := base) T) hg (hr.mono (by decide)) (by rfl) T.g_struck T.F_struck.kp T.b_struck (fun σ => passAt (takes_of rfl rfl rfl rfl) σ) (pa_cons (pv 6) pa_nil)) (pv 6) (nomark _)))))))))), fun vs => ?_⟩
  exact (sem_seq (sem_asg (sem_cl (sem_consD (sem_var 0) (sem_consD (sem_neg (sem_int 1)) sem_nilD))))
    (sem_seq (sem_ite (sem_not (sem_tst (sem_isi (T := "tuple") (by decide) (sem_var 1))))
    (sem_ret (sem_bl false))
    sem_next)
    (sem_seq (sem_asg (sem_cl (sem_consD (sem_var 0) (sem_consD (sem_var 1) sem_nilD))))
    (sem_seq (sem_ite (sem_tst (sem_isNO (sem_var 2)))
    (sem_ret (sem_bl false))
    sem_next)
    (sem_seq (sem_for (sem_sq (sem_var 1)) (sem_gu (sem_gcons sem_name (sem_gcons sem_name sem_gnil)))
    (sem_for (sem_rng2 (sem_consD (sem_op ov_add (sem_var 3) (sem_int 1)) (sem_consD (sem_var 4) sem_nilD))) sem_name
    (sem_ite (sem_or (sem_tst (sem_op ov_le (sem_op ov_ix (sem_var 2) (sem_var 5)) (sem_var 3))) (sem_tst (sem_op ov_ge (sem_op ov_ix (sem_var 2) (sem_var 5)) (sem_var 4))))
    (sem_ret (sem_bl false))
    sem_next)))
    (sem_seq (sem_asg (sem_tupleOf (sem_lc (vs := [7, 8]) (sem_enumU (sem_var 0)) (sem_gu (sem_gcons sem_name (sem_gcons sem_name sem_gnil))) (sem_tst (sem_op ov_eq (sem_op ov_ix (sem_var 2) (sem_var 7)) (sem_neg (sem_int 1)))) (sem_var 8) (by decide))))
    (sem_ret (sem_op ov_eq (sem_cl (sem_consD (sem_var 6) sem_nilD)) (sem_var 6)))))))))
theorem ok_word_of (T : Tx K mg) : FnG P w K mg base 1 T.a_word_of T.d_word_of ["text"] (spF 1 K T.xc m_word_of) := by
  refine fn_sem T.F_word_of sc_word_of rfl rfl fun cd A o s H E hg hr => ?_
  refine ⟨_, (pss_one (ps_ret (k_tuple K (by rfl) (by rfl) T.m_tuple (by exact (pe_lc (own := [("letter", 1)]) rfl sc_word_of.nd (k_sq K (by rfl) (pv 0)) (blkOk_by (N := N_word_of) (sc := defScope s_word_of) (by decide +kernel)) (fun _ _ _ _ _ => by exact (pgn 1 (by exact sc_word_of.nd) (by rfl) (by first | exact .inl rfl | exact .inr rfl) (by first | exact .inr rfl | exact .inl rfl))) (fun _ _ _ _ _ => by exact pts_nil) (fun _ _ _ _ _ => by exact (pe_tup (pa_cons (pv 1) (pa_cons pe_int pa_nil)))))) (by rfl)))), fun vs => ?_⟩
  exact (sem_ret (sem_tupleOf (sem_lc (vs := [1]) (sem_sq (sem_var 0)) sem_name sem_yes (sem_tup (sem_consD (sem_var 1) (sem_consD (sem_int 1) sem_nilD))) (by decide))))
theorem ok_text_of (T : Tx K mg) : FnG P w K mg base 1 T.a_text_of T.d_text_of ["word"] (spF 1 K T.xc m_text_of) := by
  refine fn_sem T.F_text_of sc_text_of rfl rfl fun cd A o s H E hg hr => ?_
  refine ⟨_, (pss_cons (ps_if (pt_val (pe_callB (k_any K (by rfl) (by rfl)) (by rfl) T.m_any (by decide +kernel) (pa_cons (by exact (pe_lc (own := [("_", 1), ("sign", 2)]) rfl sc_text_of.nd (k_sq K (by rfl) (pv 0)) (blkOk_by (N := N_text_of) (sc := defScope s_text_of) (by decide +kernel)) (fun _ _ _ _ _ => by exact (pgt K 2 (pgc (pgn 1 (by exact sc_text_of.nd) (by rfl) (by first | exact .inl rfl | exact .inr rfl) (by first | exact .inr rfl | exact .inl rfl)) (pgc (pgn 2 (by exact sc_text_of.nd) (by rfl) (by first | exact .inl rfl | exact .inr rfl) (by first | exact .inr rfl | exact .inl rfl)) pgs_nil (by rfl)) (by rfl)) (by rfl) (by rfl) (by rfl) (by rfl))) (fun _ _ _ _ _ => by exact pts_nil) (fun _ _ _ _ _ => by exact (pe_cmpR op_lt (pv 2) pe_int (nomark _))))) pa_nil)))
    (pss_one (ps_ret pe_non))
    pss_nil)
    (pss_one (ps_ret (k_tuple K (by rfl) (by rfl) T.m_tuple (by exact (pe_lc (own := [("letter", 3), ("_", 1)]) rfl sc_text_of.nd (k_sq K (by rfl) (pv 0)) (blkOk_by (N := N_text_of) (sc := defScope s_text_of) (by decide +kernel)) (fun _ _ _ _ _ => by exact (pgt K 2 (pgc (pgn 3 (by exact sc_text_of.nd) (by rfl) (by first | exact .inl rfl | exact .inr rfl) (by first | exact .inr rfl | exact .inl rfl)) (pgc (pgn 1 (by exact sc_text_of.nd) (by rfl) (by first | exact .inl rfl | exact .inr rfl) (by first | exact .inr rfl | exact .inl rfl)) pgs_nil (by rfl)) (by rfl)) (by rfl) (by rfl) (by rfl) (by rfl))) (fun _ _ _ _ _ => by exact pts_nil) (fun _ _ _ _ _ => by exact (pv 3)))) (by rfl))))), fun vs => ?_⟩
  exact (sem_seq (sem_ite (sem_tst (sem_call cv_any (sem_cons (sem_lc (vs := [1, 2]) (sem_sq (sem_var 0)) (sem_gu (sem_gcons sem_name (sem_gcons sem_name sem_gnil))) sem_yes (sem_op ov_lt (sem_var 2) (sem_int 0)) (by decide)) sem_nil)))
    (sem_ret sem_non)
    sem_next)
    (sem_ret (sem_tupleOf (sem_lc (vs := [3, 1]) (sem_sq (sem_var 0)) (sem_gu (sem_gcons sem_name (sem_gcons sem_name sem_gnil))) sem_yes (sem_var 3) (by decide)))))
theorem ok_text_word (T : Tx K mg) : FnG P w K mg base 7 T.a_text_word T.d_text_word ["text"] (spF 1 K T.xc m_text_word) := by
  refine fn_sem T.F_text_word sc_text_word rfl rfl fun cd A o s H E hg hr => ?_
  refine ⟨_, (pss_one (ps_ret (pe_cl (E := atE (fun cls d _ H => E cls d H)) (ok_word_of (P := P) (w := w) (base := base) T) hg (hr.mono (by decide)) (by rfl) T.g_word_of T.F_word_of.kp T.b_word_of (fun σ => passAt (takes_of rfl rfl rfl rfl) σ) (pa_cons (pe_cl (E := atE (fun cls d _ H => E cls d H)) (ok_need_text (P := P) (w := w) (base := base) T) hg (hr.mono (by decide)) (by rfl) T.g_need_text T.F_need_text.kp T.b_need_text (fun σ => passAt (takes_of rfl rfl rfl rfl) σ) (pa_cons (pv 0) (pa_cons (pe_un un_neg pe_int) pa_nil))) pa_nil)))), fun vs => ?_⟩
  exact (sem_ret (sem_cl (sem_consD (sem_cl (sem_consD (sem_var 0) (sem_consD (sem_neg (sem_int 1)) sem_nilD))) sem_nilD)))
theorem ok_word_text (T : Tx K mg) : FnG P w K mg base 7 T.a_word_text T.d_word_text ["word"] (spF 1 K T.xc m_word_text) := by
  refine fn_sem T.F_word_text sc_word_text rfl rfl fun cd A o s H E hg hr => ?_
  refine ⟨_, (pss_one (ps_ret (pe_cl (E := atE (fun cls d _ H => E cls d H)) (ok_text_of (P := P) (w := w) (base := base) T) hg (hr.mono (by decide)) (by rfl) T.g_text_of T.F_text_of.kp T.b_text_of (fun σ => passAt (takes_of rfl rfl rfl rfl) σ) (pa_cons (pe_cl (E := atE (fun cls d _ H => E cls d H)) (ok_struck (P := P) (w := w) (base := base) T) hg (hr.mono (by decide)) (by rfl) T.g_struck T.F_struck.kp T.b_struck (fun σ => passAt (takes_of rfl rfl rfl rfl) σ) (pa_cons (pe_cl (E := atE (fun cls d _ H => E cls d H)) (ok_need_word (P := P) (w := w) (base := base) T) hg (hr.mono (by decide)) (by rfl) T.g_need_word T.F_need_word.kp T.b_need_word (fun σ => passAt (takes_of rfl rfl rfl rfl) σ) (pa_cons (pv 0) (pa_cons (pe_un un_neg pe_int) pa_nil))) pa_nil)) pa_nil)))), fun vs => ?_⟩
  exact (sem_ret (sem_cl (sem_consD (sem_cl (sem_consD (sem_cl (sem_consD (sem_var 0) (sem_consD (sem_neg (sem_int 1)) sem_nilD))) sem_nilD)) sem_nilD)))
theorem ok_law_box (T : Tx K mg) : FnG P w K mg base 1 T.a_law_box T.d_law_box ["script", "k"] (spF 2 K T.xc m_law_box) := by
  refine fn_sem T.F_law_box sc_law_box rfl rfl fun cd A o s H E hg hr => ?_
  refine ⟨_, (pss_cons (ps_set (i := 2) sc_law_box.nd rfl (by first | exact .inl rfl | exact .inr rfl) (pe_op (k_add K (by rfl)) (pe_op op_mulW pe_int (pv 1)) pe_int))
    (pss_cons (ps_if (pt_cmpR op_lt (pv 1) (pe_callB (k_len K (by rfl)) (by rfl) T.m_len (by decide +kernel) (pa_cons (pv 0) pa_nil)) (nomark _))
    (pss_one (ps_set (i := 2) sc_law_box.nd rfl (by first | exact .inl rfl | exact .inr rfl) (pe_callB call_absA (by rfl) T.m_abs (by decide +kernel) (pa_cons (pe_ix (k_ix K (by rfl)) (pv 0) (pv 1) (fun _ _ => rfl)) pa_nil))))
    (pss_one (ps_if (pt_cmpR op_gt (pe_callB (k_len K (by rfl)) (by rfl) T.m_len (by decide +kernel) (pa_cons (pv 0) pa_nil)) pe_int (nomark _))
    (pss_one (ps_set (i := 2) sc_law_box.nd rfl (by first | exact .inl rfl | exact .inr rfl) (pe_op (k_add K (by rfl)) (pv 2) (pe_op op_mulW (pe_op op_mod (pe_callTy call_intA (by rfl) T.m_int (by decide +kernel) (pa_cons (pe_callB call_absA (by rfl) T.m_abs (by decide +kernel) (pa_cons (pe_ix (k_ix K (by rfl)) (pv 0) (pe_op op_mod (pe_callTy call_intA (by rfl) T.m_int (by decide +kernel) (pa_cons (pv 1) pa_nil)) (pe_callB (k_len K (by rfl)) (by rfl) T.m_len (by decide +kernel) (pa_cons (pv 0) pa_nil))) (fun _ _ => rfl)) pa_nil)) pa_nil)) pe_int) pe_int))))
    pss_nil)))
    (pss_one (ps_ret (pe_lst (pa_cons (pe_ix (k_ix K (by rfl)) (pe_lst (pa_cons pe_int (pa_cons (pv 2) pa_nil))) (pe_callTy call_intA (by rfl) T.m_int (by decide +kernel) (pa_cons (pe_cmpR op_ge (pv 2) (pe_op op_pow pe_int pe_int) (nomark _)) pa_nil)) (fun _ _ => rfl)) (pa_cons (pe_op (k_add K (by rfl)) (pe_op op_mod (pe_callTy call_intA (by rfl) T.m_int (by decide +kernel) (pa_cons (pe_op (k_add K (by rfl)) (pe_op op_mulW (pe_op op_mod (pe_callTy call_intA (by rfl) T.m_int (by decide +kernel) (pa_cons (pv 2) pa_nil)) pe_int) pe_int) (pe_op op_mulW pe_int (pv 1))) pa_nil)) pe_int) pe_int) (pa_cons pe_int pa_nil)))))))), fun vs => ?_⟩
  exact (sem_seq (sem_asg (sem_op ov_add (sem_op ov_mul (sem_int 6121) (sem_var 1)) (sem_int 877)))
    (sem_seq (sem_ite (sem_tst (sem_op ov_lt (sem_var 1) (sem_call cv_len (sem_cons (sem_var 0) sem_nil))))
    (sem_asg (sem_call cv_abs (sem_cons (sem_op ov_ix (sem_var 0) (sem_var 1)) sem_nil)))
    (sem_ite (sem_tst (sem_op ov_gt (sem_call cv_len (sem_cons (sem_var 0) sem_nil)) (sem_int 0)))
    (sem_asg (sem_op ov_add (sem_var 2) (sem_op ov_mul (sem_op ov_mod (sem_call cv_int (sem_cons (sem_call cv_abs (sem_cons (sem_op ov_ix (sem_var 0) (sem_op ov_mod (sem_call cv_int (sem_cons (sem_var 1) sem_nil)) (sem_call cv_len (sem_cons (sem_var 0) sem_nil)))) sem_nil)) sem_nil)) (sem_int 2147483629)) (sem_int 60013))))
    sem_next))
    (sem_ret (sem_lst (sem_consD (sem_op ov_ix (sem_lst (sem_consD (sem_int 0) (sem_consD (sem_var 2) sem_nilD))) (sem_call cv_int (sem_cons (sem_op ov_ge (sem_var 2) (sem_op ov_pow (sem_int 10) (sem_int 18))) sem_nil))) (sem_consD (sem_op ov_add (sem_op ov_mod (sem_call cv_int (sem_cons (sem_op ov_add (sem_op ov_mul (sem_op ov_mod (sem_call cv_int (sem_cons (sem_var 2) sem_nil)) (sem_int 2147483629)) (sem_int 38377)) (sem_op ov_mul (sem_int 71129) (sem_var 1))) sem_nil)) (sem_int 2147483629)) (sem_int 1)) (sem_consD (sem_int 0) sem_nilD)))))))
theorem ok_law_take (T : Tx K mg) : FnG P w K mg base 1 T.a_law_take T.d_law_take ["box", "many"] (spF 2 K T.xc m_law_take) := by
  refine fn_sem T.F_law_take sc_law_take rfl rfl fun cd A o s H E hg hr => ?_
  refine ⟨_, (pss_cons (ps_if (pt_cmpR op_gt (pe_ix (k_ix K (by rfl)) (pv 0) pe_int (fun _ _ => rfl)) pe_int (nomark _))
    (pss_cons (ps_set (i := 2) sc_law_take.nd rfl (by first | exact .inl rfl | exact .inr rfl) (pe_op op_mod (pe_callTy call_intA (by rfl) T.m_int (by decide +kernel) (pa_cons (pe_ix (k_ix K (by rfl)) (pv 0) pe_int (fun _ _ => rfl)) pa_nil)) (pv 1)))
    (pss_cons (ps_asg (pe_op op_fdivW (pe_ix (k_ix K (by rfl)) (pv 0) pe_int (fun _ _ => rfl)) (pv 1)) (pg_sub (pv 0) pe_int set_list))
    (pss_one (ps_ret (pv 2)))))
    pss_nil)
    (pss_cons (ps_asg (pe_op (k_add K (by rfl)) (pe_ix (k_ix K (by rfl)) (pv 0) pe_int (fun _ _ => rfl)) pe_int) (pg_sub (pv 0) pe_int set_list))
    (pss_cons (ps_set (i := 3) sc_law_take.nd rfl (by first | exact .inl rfl | exact .inr rfl) (pe_op op_mod (pe_callTy call_intA (by rfl) T.m_int (by decide +kernel) (pa_cons (pe_op (k_add K (by rfl)) (pe_op op_mulW (pe_op (k_add K (by rfl)) (pe_ix (k_ix K (by rfl)) (pv 0) pe_int (fun _ _ => rfl)) (pe_op op_mulW pe_int (pe_ix (k_ix K (by rfl)) (pv 0) pe_int (fun _ _ => rfl)))) pe_int) pe_int) pa_nil)) pe_int))
    (pss_cons (ps_asg (pe_op (k_add K (by rfl)) (pe_op op_mod (pe_callTy call_intA (by rfl) T.m_int (by decide +kernel) (pa_cons (pe_op (k_add K (by rfl)) (pe_op op_mulW (pv 3) pe_int) pe_int) pa_nil)) pe_int) pe_int) (pg_sub (pv 0) pe_int set_list))
    (pss_one (ps_ret (pe_op op_mod (pe_callTy call_intA (by rfl) T.m_int (by decide +kernel) (pa_cons (pe_op op_fdivW (pe_op (k_add K (by rfl)) (pe_op op_mulW (pv 3) pe_int) (pe_ix (k_ix K (by rfl)) (pv 0) pe_int (fun _ _ => rfl))) pe_int) pa_nil)) (pv 1)))))))), fun vs => ?_⟩
  exact (sem_seq (sem_ite (sem_tst (sem_op ov_gt (sem_op ov_ix (sem_var 0) (sem_int 0)) (sem_int 0)))
    (sem_seq (sem_asg (sem_op ov_mod (sem_call cv_int (sem_cons (sem_op ov_ix (sem_var 0) (sem_int 0)) sem_nil)) (sem_var 1)))
    (sem_seq (sem_set (sem_op ov_fdv (sem_op ov_ix (sem_var 0) (sem_int 0)) (sem_var 1)) (sem_int 0))
    (sem_ret (sem_var 2))))
    sem_next)
    (sem_seq (sem_set (sem_op ov_add (sem_op ov_ix (sem_var 0) (sem_int 2)) (sem_int 1)) (sem_int 2))
    (sem_seq (sem_asg (sem_op ov_mod (sem_call cv_int (sem_cons (sem_op ov_add (sem_op ov_mul (sem_op ov_add (sem_op ov_ix (sem_var 0) (sem_int 1)) (sem_op ov_mul (sem_int 90007) (sem_op ov_ix (sem_var 0) (sem_int 2)))) (sem_int 58217)) (sem_int 43)) sem_nil)) (sem_int 2147483563)))
    (sem_seq (sem_set (sem_op ov_add (sem_op ov_mod (sem_call cv_int (sem_cons (sem_op ov_add (sem_op ov_mul (sem_var 3) (sem_int 40289)) (sem_int 27367)) sem_nil)) (sem_int 2147483629)) (sem_int 1)) (sem_int 1))
    (sem_ret (sem_op ov_mod (sem_call cv_int (sem_cons (sem_op ov_fdv (sem_op ov_add (sem_op ov_mul (sem_var 3) (sem_int 2147483647)) (sem_op ov_ix (sem_var 0) (sem_int 1))) (sem_int 8191)) sem_nil)) (sem_var 1)))))))
theorem ok_law_pick (T : Tx K mg) : FnG P w K mg base 2 T.a_law_pick T.d_law_pick ["box", "some"] (spF 2 K T.xc m_law_pick) := by
  refine fn_sem T.F_law_pick sc_law_pick rfl rfl fun cd A o s H E hg hr => ?_
  refine ⟨_, (pss_one (ps_ret (pe_ix (k_ix K (by rfl)) (pv 1) (pe_cl (E := atE (fun cls d _ H => E cls d H)) (ok_law_take (P := P) (w := w) (base := base) T) hg (hr.mono (by decide)) (by rfl) T.g_law_take T.F_law_take.kp T.b_law_take (fun σ => passAt (takes_of rfl rfl rfl rfl) σ) (pa_cons (pv 0) (pa_cons (pe_callB (k_len K (by rfl)) (by rfl) T.m_len (by decide +kernel) (pa_cons (pv 1) pa_nil)) pa_nil))) (fun _ _ => rfl)))), fun vs => ?_⟩
  exact (sem_ret (sem_op ov_ix (sem_var 1) (sem_clI (sem_consD (sem_call cv_len (sem_cons (sem_var 1) sem_nil)) sem_nilD))))
theorem ok_law_word (T : Tx K mg) : FnG P w K mg base 3 T.a_law_word T.d_law_word ["box", "letters"] (spF 2 K T.xc m_law_word) := by
  refine fn_sem T.F_law_word sc_law_word rfl rfl fun cd A o s H E hg hr => ?_
  refine ⟨_, (pss_cons (ps_set (i := 2) sc_law_word.nd rfl (by first | exact .inl rfl | exact .inr rfl) (pe_lst pa_nil))
    (pss_cons (ps_for (passes_of rfl) rfl (pi_range1 (by rfl) T.m_range (pa_cons (pe_cl (E := atE (fun cls d _ H => E cls d H)) (ok_law_take (P := P) (w := w) (base := base) T) hg (hr.mono (by decide)) (by rfl) T.g_law_take T.F_law_take.kp T.b_law_take (fun σ => passAt (takes_of rfl rfl rfl rfl) σ) (pa_cons (pv 0) (pa_cons pe_int pa_nil))) pa_nil)) (pgn 3 (by exact sc_law_word.nd) (by rfl) (by first | exact .inl rfl | exact .inr rfl) (by first | exact .inr rfl | exact .inl rfl))
    (pss_cons (ps_set (i := 4) sc_law_word.nd rfl (by first | exact .inl rfl | exact .inr rfl) (pe_cl (E := atE (fun cls d _ H => E cls d H)) (ok_law_take (P := P) (w := w) (base := base) T) hg (hr.mono (by decide)) (by rfl) T.g_law_take T.F_law_take.kp T.b_law_take (fun σ => passAt (takes_of rfl rfl rfl rfl) σ) (pa_cons (pv 0) (pa_cons pe_int pa_nil))))
    (pss_one (ps_if (PW.pt (pw_and (pt_cmpR op_gt (pe_callB (k_len K (by rfl)) (by rfl) T.m_len (by decide +kernel) (pa_cons (pv 2) pa_nil)) pe_int (nomark _)) (pw_and1 (pt_cmpR (k_eq K (by rfl) (hr.u 64)) (pv 4) pe_int (nomark _)))))
    (pss_one (ps_expr (pe_bm PySem.F.plainAttrs_list PySem.F.slot_list_append PySem.F.type_list_append mt_append (pv 2) (pa_cons (pe_tup (pa_cons (pe_ix (k_ix K (by rfl)) (pe_ix (k_ix K (by rfl)) (pv 2) (pe_un un_neg pe_int) (fun _ _ => rfl)) pe_int (fun _ _ => rfl)) (pa_cons (pe_op op_sub pe_int (pe_ix (k_ix K (by rfl)) (pe_ix (k_ix K (by rfl)) (pv 2) (pe_un un_neg pe_int) (fun _ _ => rfl)) pe_int (fun _ _ => rfl))) pa_nil))) pa_nil))))
    (pss_one (ps_expr (pe_bm PySem.F.plainAttrs_list PySem.F.slot_list_append PySem.F.type_list_append mt_append (pv 2) (pa_cons (pe_tup (pa_cons (pe_cl (E := atE (fun cls d _ H => E cls d H)) (ok_law_pick (P := P) (w := w) (base := base) T) hg (hr.mono (by decide)) (by rfl) T.g_law_pick T.F_law_pick.kp T.b_law_pick (fun σ => passAt (takes_of rfl rfl rfl rfl) σ) (pa_cons (pv 0) (pa_cons (pv 1) pa_nil))) (pa_cons (pe_ix (k_ix K (by rfl)) (pe_lst (pa_cons pe_int (pa_cons (pe_op op_sub pe_int pe_int) pa_nil))) (pe_cl (E := atE (fun cls d _ H => E cls d H)) (ok_law_take (P := P) (w := w) (base := base) T) hg (hr.mono (by decide)) (by rfl) T.g_law_take T.F_law_take.kp T.b_law_take (fun σ => passAt (takes_of rfl rfl rfl rfl) σ) (pa_cons (pv 0) (pa_cons pe_int pa_nil))) (fun _ _ => rfl)) pa_nil))) pa_nil))))))))
    (pss_one (ps_ret (k_tuple K (by rfl) (by rfl) T.m_tuple (pv 2) (by rfl)))))), fun vs => ?_⟩
  exact (sem_seq (sem_asg (sem_lst sem_nilD))
    (sem_seq (sem_for (sem_rng1 (sem_clI (sem_consD (sem_int 15) sem_nilD))) sem_name
    (sem_seq (sem_asg (sem_clI (sem_consD (sem_int 3) sem_nilD)))
    (sem_ite (sem_and (sem_tst (sem_op ov_gt (sem_call cv_len (sem_cons (sem_var 2) sem_nil)) (sem_int 0))) (sem_tst (sem_op ov_eq (sem_var 4) (sem_int 0))))
    (sem_drop (sem_mut mv_append (sem_consD (sem_tup (sem_consD (sem_op ov_ix (sem_op ov_ix (sem_var 2) (sem_neg (sem_int 1))) (sem_int 0)) (sem_consD (sem_op ov_sub (sem_int 0) (sem_op ov_ix (sem_op ov_ix (sem_var 2) (sem_neg (sem_int 1))) (sem_int 1))) sem_nilD))) sem_nilD)))
    (sem_drop (sem_mut mv_append (sem_consD (sem_tup (sem_consD (sem_clI (sem_consD (sem_var 1) sem_nilD)) (sem_consD (sem_op ov_ix (sem_lst (sem_consD (sem_int 1) (sem_consD (sem_op ov_sub (sem_int 0) (sem_int 1)) sem_nilD))) (sem_clI (sem_consD (sem_int 2) sem_nilD))) sem_nilD))) sem_nilD))))))
    (sem_ret (sem_tupleOf (sem_var 2)))))
theorem ok_law_struck (T : Tx K mg) : FnG P w K mg base 3 T.a_law_struck T.d_law_struck ["box", "word"] (spF 2 K T.xc m_law_struck) := by
  refine fn_sem T.F_law_struck sc_law_struck rfl rfl fun cd A o s H E hg hr => ?_
  refine ⟨_, (pss_cons (ps_par (i := 2) (j := 3) rfl sc_law_struck.nd rfl rfl (by decide) rfl rfl (pa_cons (pe_listRg rfl (by rfl) T.m_list (prg_1 (by rfl) T.m_range (pe_callB (k_len K (by rfl)) (by rfl) T.m_len (by decide +kernel) (pa_cons (pv 1) pa_nil)))) (pa_cons (pe_lst pa_nil) pa_nil)) (by rfl))
    (pss_cons (ps_for (passes_of rfl) rfl (pi_range1 (by rfl) T.m_range (pa_cons (pe_callB (k_len K (by rfl)) (by rfl) T.m_len (by decide +kernel) (pa_cons (pv 1) pa_nil)) pa_nil)) (pgn 4 (by exact sc_law_struck.nd) (by rfl) (by first | exact .inl rfl | exact .inr rfl) (by first | exact .inr rfl | exact .inl rfl))
    (pss_cons (ps_set (i := 5) sc_law_struck.nd rfl (by first | exact .inl rfl | exact .inr rfl) (pe_lst pa_nil))
    (pss_cons (ps_for (passes_of rfl) rfl (pi_range1 (by rfl) T.m_range (pa_cons (pe_op op_sub (pe_callB (k_len K (by rfl)) (by rfl) T.m_len (by decide +kernel) (pa_cons (pv 2) pa_nil)) pe_int) pa_nil)) (pgn 6 (by exact sc_law_struck.nd) (by rfl) (by first | exact .inl rfl | exact .inr rfl) (by first | exact .inr rfl | exact .inl rfl))
    (pss_cons (ps_par (i := 7) (j := 8) rfl sc_law_struck.nd rfl rfl (by decide) rfl rfl (pa_cons (pe_ix (k_ix K (by rfl)) (pv 1) (pe_ix (k_ix K (by rfl)) (pv 2) (pv 6) (fun _ _ => rfl)) (fun _ _ => rfl)) (pa_cons (pe_ix (k_ix K (by rfl)) (pv 1) (pe_ix (k_ix K (by rfl)) (pv 2) (pe_op (k_add K (by rfl)) (pv 6) pe_int) (fun _ _ => rfl)) (fun _ _ => rfl)) pa_nil)) (by rfl))
    (pss_one (ps_if (PW.pt (pw_and (pt_cmpR (k_eq K (by rfl) (hr.u 64)) (pe_ix (k_ix K (by rfl)) (pv 7) pe_int (fun _ _ => rfl)) (pe_ix (k_ix K (by rfl)) (pv 8) pe_int (fun _ _ => rfl)) (nomark _)) (pw_and1 (pt_cmpR (k_eq K (by rfl) (hr.u 64)) (pe_ix (k_ix K (by rfl)) (pv 7) pe_int (fun _ _ => rfl)) (pe_op op_sub pe_int (pe_ix (k_ix K (by rfl)) (pv 8) pe_int (fun _ _ => rfl))) (nomark _)))))
    (pss_one (ps_expr (pe_bm PySem.F.plainAttrs_list PySem.F.slot_list_append PySem.F.type_list_append mt_append (pv 5) (pa_cons (pv 6) pa_nil))))
    pss_nil))))
    (pss_one (ps_if (pt_cmpR op_gt (pe_callB (k_len K (by rfl)) (by rfl) T.m_len (by decide +kernel) (pa_cons (pv 5) pa_nil)) pe_int (nomark _))
    (pss_cons (ps_set (i := 6) sc_law_struck.nd rfl (by first | exact .inl rfl | exact .inr rfl) (pe_cl (E := atE (fun cls d _ H => E cls d H)) (ok_law_pick (P := P) (w := w) (base := base) T) hg (hr.mono (by decide)) (by rfl) T.g_law_pick T.F_law_pick.kp T.b_law_pick (fun σ => passAt (takes_of rfl rfl rfl rfl) σ) (pa_cons (pv 0) (pa_cons (pv 5) pa_nil))))
    (pss_cons (ps_expr (pe_bm PySem.F.plainAttrs_list PySem.F.slot_list_append PySem.F.type_list_append mt_append (pv 3) (pa_cons (pe_tup (pa_cons (pe_ix (k_ix K (by rfl)) (pv 2) (pv 6) (fun _ _ => rfl)) (pa_cons (pe_ix (k_ix K (by rfl)) (pv 2) (pe_op (k_add K (by rfl)) (pv 6) pe_int) (fun _ _ => rfl)) pa_nil))) pa_nil)))
    (pss_one (ps_set (i := 2) sc_law_struck.nd rfl (by first | exact .inl rfl | exact .inr rfl) (pe_op (k_add K (by rfl)) (pe_slice (k_sl K (by rfl)) (pv 2) po_none (po_some (pv 6))) (pe_slice (k_sl K (by rfl)) (pv 2) (po_some (pe_op (k_add K (by rfl)) (pv 6) pe_int)) po_none))))))
    pss_nil)))))
    (pss_one (ps_ret (pe_tup (pa_cons (k_tuple K (by rfl) (by rfl) T.m_tuple (by exact (pe_lc (own := [("at", 6)]) rfl sc_law_struck.nd (k_sq K (by rfl) (pv 2)) (blkOk_by (N := N_law_struck) (sc := defScope s_law_struck) (by decide +kernel)) (fun _ _ _ _ _ => by exact (pgn 6 (by exact sc_law_struck.nd) (by rfl) (by first | exact .inl rfl | exact .inr rfl) (by first | exact .inr rfl | exact .inl rfl))) (fun _ _ _ _ _ => by exact pts_nil) (fun _ _ _ _ _ => by exact (pe_ix (k_ix K (by rfl)) (pv 1) (pv 6) (fun _ _ => rfl))))) (by rfl)) (pa_cons (pe_callB (k_sorted K (by rfl)) (by rfl) T.m_sorted (by decide +kernel) (pa_cons (pv 3) pa_nil)) pa_nil))))))), fun vs => ?_⟩
  exact (sem_seq (sem_par (sem_rgL1 (sem_consD (sem_call cv_len (sem_cons (sem_var 1) sem_nil)) sem_nilD)) (sem_lst sem_nilD))
    (sem_seq (sem_for (sem_rng1 (sem_call cv_len (sem_cons (sem_var 1) sem_nil))) sem_name
    (sem_seq (sem_asg (sem_lst sem_nilD))
    (sem_seq (sem_for (sem_rng1 (sem_op ov_sub (sem_call cv_len (sem_cons (sem_var 2) sem_nil)) (sem_int 1))) sem_name
    (sem_seq (sem_par (sem_op ov_ix (sem_var 1) (sem_op ov_ix (sem_var 2) (sem_var 6))) (sem_op ov_ix (sem_var 1) (sem_op ov_ix (sem_var 2) (sem_op ov_add (sem_var 6) (sem_int 1)))))
    (sem_ite (sem_and (sem_tst (sem_op ov_eq (sem_op ov_ix (sem_var 7) (sem_int 0)) (sem_op ov_ix (sem_var 8) (sem_int 0)))) (sem_tst (sem_op ov_eq (sem_op ov_ix (sem_var 7) (sem_int 1)) (sem_op ov_sub (sem_int 0) (sem_op ov_ix (sem_var 8) (sem_int 1))))))
    (sem_drop (sem_mut mv_append (sem_consD (sem_var 6) sem_nilD)))
    sem_next)))
    (sem_ite (sem_tst (sem_op ov_gt (sem_call cv_len (sem_cons (sem_var 5) sem_nil)) (sem_int 0)))
    (sem_seq (sem_asg (sem_clI (sem_consD (sem_var 5) sem_nilD)))
    (sem_seq (sem_drop (sem_mut mv_append (sem_consD (sem_tup (sem_consD (sem_op ov_ix (sem_var 2) (sem_var 6)) (sem_consD (sem_op ov_ix (sem_var 2) (sem_op ov_add (sem_var 6) (sem_int 1))) sem_nilD))) sem_nilD)))
    (sem_asg (sem_op ov_add (sem_sl (sem_var 2) sem_noO (sem_parO (sem_var 6))) (sem_sl (sem_var 2) (sem_parO (sem_op ov_add (sem_var 6) (sem_int 2))) sem_noO)))))
    sem_next))))
    (sem_ret (sem_tup (sem_consD (sem_tupleOf (sem_lc (vs := [6]) (sem_sq (sem_var 2)) sem_name sem_yes (sem_op ov_ix (sem_var 1) (sem_var 6)) (by decide))) (sem_consD (sem_call cv_sorted (sem_cons (sem_var 3) sem_nil)) sem_nilD))))))
theorem ok_law_pairs_right (T : Tx K mg) : FnG P w K mg base 1 T.a_law_pairs_right T.d_law_pairs_right ["word", "pairs"] (spF 2 K T.xc m_law_pairs_right) := by
  refine fn_sem T.F_law_pairs_right sc_law_pairs_right rfl rfl fun cd A o s H E hg hr => ?_
  refine ⟨_, (pss_cons (ps_set (i := 2) sc_law_pairs_right.nd rfl (by first | exact .inl rfl | exact .inr rfl) (pe_lst pa_nil))
    (pss_cons (ps_for (passes_of rfl) rfl (k_sq K (by rfl) (pv 1)) (pgn 3 (by exact sc_law_pairs_right.nd) (by rfl) (by first | exact .inl rfl | exact .inr rfl) (by first | exact .inr rfl | exact .inl rfl))
    (pss_one (ps_expr (pe_bm PySem.F.plainAttrs_list PySem.F.slot_list_extend PySem.F.type_list_extend mt_xt (pv 2) (pa_cons (pe_callTy (k_list K (by rfl)) (by rfl) T.m_list (by decide +kernel) (pa_cons (pv 3) pa_nil)) pa_nil)))))
    (pss_cons (ps_if (PW.pt (pw_or (pt_cmpR (k_ne K (by rfl) (hr.u 64)) (pe_lenSet K (by rfl) (by rfl) (by rfl) T.m_len (by rfl) T.m_set (pv 2)) (pe_callB (k_len K (by rfl)) (by rfl) T.m_len (by decide +kernel) (pa_cons (pv 2) pa_nil)) (nomark _)) (pw_or1 (pt_cmpR (k_ne K (by rfl) (hr.u 64)) (pe_callTy (k_list K (by rfl)) (by rfl) T.m_list (by decide +kernel) (pa_cons (pv 1) pa_nil)) (pe_callB (k_sorted K (by rfl)) (by rfl) T.m_sorted (by decide +kernel) (pa_cons (pv 1) pa_nil)) (nomark _)))))
    (pss_one (ps_ret pe_bl))
    pss_nil)
    (pss_cons (ps_for (passes_of rfl) rfl (k_sq K (by rfl) (pv 1)) (pgt K 2 (pgc (pgn 4 (by exact sc_law_pairs_right.nd) (by rfl) (by first | exact .inl rfl | exact .inr rfl) (by first | exact .inr rfl | exact .inl rfl)) (pgc (pgn 5 (by exact sc_law_pairs_right.nd) (by rfl) (by first | exact .inl rfl | exact .inr rfl) (by first | exact .inr rfl | exact .inl rfl)) pgs_nil (by rfl)) (by rfl)) (by rfl) (by rfl) (by rfl) (by rfl))
    (pss_cons (ps_if (PW.pt (pw_or (pt_cmpR op_ge (pv 4) (pv 5) (nomark _)) (pw_or (pt_cmpR (k_ne K (by rfl) (hr.u 64)) (pe_ix (k_ix K (by rfl)) (pe_ix (k_ix K (by rfl)) (pv 0) (pv 4) (fun _ _ => rfl)) pe_int (fun _ _ => rfl)) (pe_ix (k_ix K (by rfl)) (pe_ix (k_ix K (by rfl)) (pv 0) (pv 5) (fun _ _ => rfl)) pe_int (fun _ _ => rfl)) (nomark _)) (pw_or1 (pt_cmpR (k_eq K (by rfl) (hr.u 64)) (pe_ix (k_ix K (by rfl)) (pe_ix (k_ix K (by rfl)) (pv 0) (pv 4) (fun _ _ => rfl)) pe_int (fun _ _ => rfl)) (pe_ix (k_ix K (by rfl)) (pe_ix (k_ix K (by rfl)) (pv 0) (pv 5) (fun _ _ => rfl)) pe_int (fun _ _ => rfl)) (nomark _))))))
    (pss_one (ps_ret pe_bl))
    pss_nil)
    (pss_one (ps_for (passes_of rfl) rfl (pi_range2 (by rfl) T.m_range (pa_cons (pe_op (k_add K (by rfl)) (pv 4) pe_int) (pa_cons (pv 5) pa_nil))) (pgn 6 (by exact sc_law_pairs_right.nd) (by rfl) (by first | exact .inl rfl | exact .inr rfl) (by first | exact .inr rfl | exact .inl rfl))
    (pss_one (ps_if (pt_cmpR (k_ne K (by rfl) (hr.u 64)) (pe_callB (k_len K (by rfl)) (by rfl) T.m_len (by decide +kernel) (pa_cons (by exact (pe_lc (own := [("pair", 3)]) rfl sc_law_pairs_right.nd (k_sq K (by rfl) (pv 1)) (blkOk_by (N := N_law_pairs_right) (sc := defScope s_law_pairs_right) (by decide +kernel)) (fun _ _ _ _ _ => by exact (pgn 3 (by exact sc_law_pairs_right.nd) (by rfl) (by first | exact .inl rfl | exact .inr rfl) (by first | exact .inr rfl | exact .inl rfl))) (fun _ _ _ _ _ => by exact (pts_one (PW.pt (pw_and (pt_chn (pv 4) (pe_ix (k_ix K (by rfl)) (pv 3) pe_int (fun _ _ => rfl)) (pe_ix (k_ix K (by rfl)) (pv 3) pe_int (fun _ _ => rfl)) (pv 5)) (pw_and1 (pt_cmpR (k_inT K (by rfl)) (pv 6) (pv 3) (by rfl))))))) (fun _ _ _ _ _ => by exact (pv 3)))) pa_nil)) pe_int (nomark _))
    (pss_one (ps_ret pe_bl))
    pss_nil))))))
    (pss_cons (ps_set (i := 7) sc_law_pairs_right.nd rfl (by first | exact .inl rfl | exact .inr rfl) (by exact (pe_lc (own := [("at", 6)]) rfl sc_law_pairs_right.nd (pi_range1 (by rfl) T.m_range (pa_cons (pe_callB (k_len K (by rfl)) (by rfl) T.m_len (by decide +kernel) (pa_cons (pv 0) pa_nil)) pa_nil)) (blkOk_by (N := N_law_pairs_right) (sc := defScope s_law_pairs_right) (by decide +kernel)) (fun _ _ _ _ _ => by exact (pgn 6 (by exact sc_law_pairs_right.nd) (by rfl) (by first | exact .inl rfl | exact .inr rfl) (by first | exact .inr rfl | exact .inl rfl))) (fun _ _ _ _ _ => by exact (pts_one (pt_cmpR (k_notin K (by rfl) (hr.u 65)) (pv 6) (pv 2) (by rfl)))) (fun _ _ _ _ _ => by exact (pe_ix (k_ix K (by rfl)) (pv 0) (pv 6) (fun _ _ => rfl))))))
    (pss_one (ps_ret (pe_cmpR (k_eq K (by rfl) (hr.u 64)) (pe_callB (k_len K (by rfl)) (by rfl) T.m_len (by decide +kernel) (pa_cons (by exact (pe_lc (own := [("at", 6)]) rfl sc_law_pairs_right.nd (pi_range1 (by rfl) T.m_range (pa_cons (pe_op op_sub (pe_callB (k_len K (by rfl)) (by rfl) T.m_len (by decide +kernel) (pa_cons (pv 7) pa_nil)) pe_int) pa_nil)) (blkOk_by (N := N_law_pairs_right) (sc := defScope s_law_pairs_right) (by decide +kernel)) (fun _ _ _ _ _ => by exact (pgn 6 (by exact sc_law_pairs_right.nd) (by rfl) (by first | exact .inl rfl | exact .inr rfl) (by first | exact .inr rfl | exact .inl rfl))) (fun _ _ _ _ _ => by exact (pts_one (pt_cmpR (k_eq K (by rfl) (hr.u 64)) (pe_ix (k_ix K (by rfl)) (pv 7) (pv 6) (fun _ _ => rfl)) (pe_tup (pa_cons (pe_ix (k_ix K (by rfl)) (pe_ix (k_ix K (by rfl)) (pv 7) (pe_op (k_add K (by rfl)) (pv 6) pe_int) (fun _ _ => rfl)) pe_int (fun _ _ => rfl)) (pa_cons (pe_op op_sub pe_int (pe_ix (k_ix K (by rfl)) (pe_ix (k_ix K (by rfl)) (pv 7) (pe_op (k_add K (by rfl)) (pv 6) pe_int) (fun _ _ => rfl)) pe_int (fun _ _ => rfl))) pa_nil))) (nomark _)))) (fun _ _ _ _ _ => by exact (pv 6)))) pa_nil)) pe_int (nomark _))))))))), fun vs => ?_⟩
  exact (sem_seq (sem_asg (sem_lst sem_nilD))
    (sem_seq (sem_for (sem_sq (sem_var 1)) sem_name
    (sem_drop (sem_mut mv_xt (sem_consD (sem_call cv_list (sem_cons (sem_var 3) sem_nil)) sem_nilD))))
    (sem_seq (sem_ite (sem_or (sem_tst (sem_op ov_ne (sem_lenSet (sem_var 2)) (sem_call cv_len (sem_cons (sem_var 2) sem_nil)))) (sem_tst (sem_op ov_ne (sem_call cv_list (sem_cons (sem_var 1) sem_nil)) (sem_call cv_sorted (sem_cons (sem_var 1) sem_nil)))))
    (sem_ret (sem_bl false))
    sem_next)
    (sem_seq (sem_for (sem_sq (sem_var 1)) (sem_gu (sem_gcons sem_name (sem_gcons sem_name sem_gnil)))
    (sem_seq (sem_ite (sem_or (sem_tst (sem_op ov_ge (sem_var 4) (sem_var 5))) (sem_or (sem_tst (sem_op ov_ne (sem_op ov_ix (sem_op ov_ix (sem_var 0) (sem_var 4)) (sem_int 0)) (sem_op ov_ix (sem_op ov_ix (sem_var 0) (sem_var 5)) (sem_int 0)))) (sem_tst (sem_op ov_eq (sem_op ov_ix (sem_op ov_ix (sem_var 0) (sem_var 4)) (sem_int 1)) (sem_op ov_ix (sem_op ov_ix (sem_var 0) (sem_var 5)) (sem_int 1))))))
    (sem_ret (sem_bl false))
    sem_next)
    (sem_for (sem_rng2 (sem_consD (sem_op ov_add (sem_var 4) (sem_int 1)) (sem_consD (sem_var 5) sem_nilD))) sem_name
    (sem_ite (sem_tst (sem_op ov_ne (sem_call cv_len (sem_cons (sem_lc (vs := [3]) (sem_sq (sem_var 1)) sem_name (sem_and (sem_chn (sem_var 4) (sem_op ov_ix (sem_var 3) (sem_int 0)) (sem_op ov_ix (sem_var 3) (sem_int 1)) (sem_var 5)) (sem_tst (sem_op ov_inT (sem_var 6) (sem_var 3)))) (sem_var 3) (by decide)) sem_nil)) (sem_int 1)))
    (sem_ret (sem_bl false))
    sem_next))))
    (sem_seq (sem_asg (sem_lc (vs := [6]) (sem_rng1 (sem_call cv_len (sem_cons (sem_var 0) sem_nil))) sem_name (sem_tst (sem_op ov_notin (sem_var 6) (sem_var 2))) (sem_op ov_ix (sem_var 0) (sem_var 6)) (by decide)))
    (sem_ret (sem_op ov_eq (sem_call cv_len (sem_cons (sem_lc (vs := [6]) (sem_rng1 (sem_op ov_sub (sem_call cv_len (sem_cons (sem_var 7) sem_nil)) (sem_int 1))) sem_name (sem_tst (sem_op ov_eq (sem_op ov_ix (sem_var 7) (sem_var 6)) (sem_tup (sem_consD (sem_op ov_ix (sem_op ov_ix (sem_var 7) (sem_op ov_add (sem_var 6) (sem_int 1))) (sem_int 0)) (sem_consD (sem_op ov_sub (sem_int 0) (sem_op ov_ix (sem_op ov_ix (sem_var 7) (sem_op ov_add (sem_var 6) (sem_int 1))) (sem_int 1))) sem_nilD))))) (sem_var 6) (by decide)) sem_nil)) (sem_int 0))))))))
theorem ok_law_spoilt (T : Tx K mg) : FnG P w K mg base 2 T.a_law_spoilt T.d_law_spoilt ["box", "many", "pairs"] (spF 3 K T.xc m_law_spoilt) := by
  refine fn_sem T.F_law_spoilt sc_law_spoilt rfl rfl fun cd A o s H E hg hr => ?_
  refine ⟨_, (pss_cons (ps_par (i := 3) (j := 4) rfl sc_law_spoilt.nd rfl rfl (by decide) rfl rfl (pa_cons (pe_callTy (k_list K (by rfl)) (by rfl) T.m_list (by decide +kernel) (pa_cons (pv 2) pa_nil)) (pa_cons (pe_cl (E := atE (fun cls d _ H => E cls d H)) (ok_law_take (P := P) (w := w) (base := base) T) hg (hr.mono (by decide)) (by rfl) T.g_law_take T.F_law_take.kp T.b_law_take (fun σ => passAt (takes_of rfl rfl rfl rfl) σ) (pa_cons (pv 0) (pa_cons pe_int pa_nil))) pa_nil)) (by rfl))
    (pss_cons (ps_if (PW.pt (pw_and (pt_cmpR (k_eq K (by rfl) (hr.u 64)) (pv 4) pe_int (nomark _)) (pw_and1 (pt_cmpR op_gt (pe_callB (k_len K (by rfl)) (by rfl) T.m_len (by decide +kernel) (pa_cons (pv 3) pa_nil)) pe_int (nomark _)))))
    (pss_one (ps_expr (pe_bm PySem.F.plainAttrs_list PySem.F.slot_list_pop PySem.F.type_list_pop mt_popAt (pv 3) (pa_cons (pe_cl (E := atE (fun cls d _ H => E cls d H)) (ok_law_take (P := P) (w := w) (base := base) T) hg (hr.mono (by decide)) (by rfl) T.g_law_take T.F_law_take.kp T.b_law_take (fun σ => passAt (takes_of rfl rfl rfl rfl) σ) (pa_cons (pv 0) (pa_cons (pe_callB (k_len K (by rfl)) (by rfl) T.m_len (by decide +kernel) (pa_cons (pv 3) pa_nil)) pa_nil))) pa_nil))))
    (pss_one (ps_if (PW.pt (pw_and (pt_cmpR (k_eq K (by rfl) (hr.u 64)) (pv 4) pe_int (nomark _)) (pw_and1 (pt_cmpR op_gt (pe_callB (k_len K (by rfl)) (by rfl) T.m_len (by decide +kernel) (pa_cons (pv 3) pa_nil)) pe_int (nomark _)))))
    (pss_cons (ps_set (i := 5) sc_law_spoilt.nd rfl (by first | exact .inl rfl | exact .inr rfl) (pe_cl (E := atE (fun cls d _ H => E cls d H)) (ok_law_take (P := P) (w := w) (base := base) T) hg (hr.mono (by decide)) (by rfl) T.g_law_take T.F_law_take.kp T.b_law_take (fun σ => passAt (takes_of rfl rfl rfl rfl) σ) (pa_cons (pv 0) (pa_cons (pe_callB (k_len K (by rfl)) (by rfl) T.m_len (by decide +kernel) (pa_cons (pv 3) pa_nil)) pa_nil))))
    (pss_one (ps_asg (pe_tup (pa_cons (pe_ix (k_ix K (by rfl)) (pe_ix (k_ix K (by rfl)) (pv 3) (pv 5) (fun _ _ => rfl)) pe_int (fun _ _ => rfl)) (pa_cons (pe_cl (E := atE (fun cls d _ H => E cls d H)) (ok_law_take (P := P) (w := w) (base := base) T) hg (hr.mono (by decide)) (by rfl) T.g_law_take T.F_law_take.kp T.b_law_take (fun σ => passAt (takes_of rfl rfl rfl rfl) σ) (pa_cons (pv 0) (pa_cons (pv 1) pa_nil))) pa_nil))) (pg_sub (pv 3) (pv 5) set_list))))
    (pss_one (ps_if (PW.pt (pw_and (pt_cmpR (k_eq K (by rfl) (hr.u 64)) (pv 4) pe_int (nomark _)) (pw_and1 (pt_cmpR op_gt (pv 1) pe_int (nomark _)))))
    (pss_one (ps_expr (pe_bm PySem.F.plainAttrs_list PySem.F.slot_list_append PySem.F.type_list_append mt_append (pv 3) (pa_cons (pe_tup (pa_cons (pe_cl (E := atE (fun cls d _ H => E cls d H)) (ok_law_take (P := P) (w := w) (base := base) T) hg (hr.mono (by decide)) (by rfl) T.g_law_take T.F_law_take.kp T.b_law_take (fun σ => passAt (takes_of rfl rfl rfl rfl) σ) (pa_cons (pv 0) (pa_cons (pe_op op_sub (pv 1) pe_int) pa_nil))) (pa_cons (pe_op op_sub (pv 1) pe_int) pa_nil))) pa_nil))))
    (pss_one (ps_expr (pe_bm0 PySem.F.plainAttrs_list PySem.F.slot_list_reverse PySem.F.type_list_reverse mt_reverse (pv 3)))))))))
    (pss_one (ps_ret (pe_ifExp (pt_cmpR (k_eq K (by rfl) (hr.u 64)) (pe_cl (E := atE (fun cls d _ H => E cls d H)) (ok_law_take (P := P) (w := w) (base := base) T) hg (hr.mono (by decide)) (by rfl) T.g_law_take T.F_law_take.kp T.b_law_take (fun σ => passAt (takes_of rfl rfl rfl rfl) σ) (pa_cons (pv 0) (pa_cons pe_int pa_nil))) pe_int (nomark _)) (k_tuple K (by rfl) (by rfl) T.m_tuple (pv 3) (by rfl)) (k_tuple K (by rfl) (by rfl) T.m_tuple (pe_callB (k_sorted K (by rfl)) (by rfl) T.m_sorted (by decide +kernel) (pa_cons (pv 3) pa_nil)) (by rfl))))))), fun vs => ?_⟩
  exact (sem_seq (sem_par (sem_call cv_list (sem_cons (sem_var 2) sem_nil)) (sem_clI (sem_consD (sem_int 4) sem_nilD)))
    (sem_seq (sem_ite (sem_and (sem_tst (sem_op ov_eq (sem_var 4) (sem_int 0))) (sem_tst (sem_op ov_gt (sem_call cv_len (sem_cons (sem_var 3) sem_nil)) (sem_int 0))))
    (sem_drop (sem_mut mv_popAt (sem_consD (sem_clI (sem_consD (sem_call cv_len (sem_cons (sem_var 3) sem_nil)) sem_nilD)) sem_nilD)))
    (sem_ite (sem_and (sem_tst (sem_op ov_eq (sem_var 4) (sem_int 1))) (sem_tst (sem_op ov_gt (sem_call cv_len (sem_cons (sem_var 3) sem_nil)) (sem_int 0))))
    (sem_seq (sem_asg (sem_clI (sem_consD (sem_call cv_len (sem_cons (sem_var 3) sem_nil)) sem_nilD)))
    (sem_set (sem_tup (sem_consD (sem_op ov_ix (sem_op ov_ix (sem_var 3) (sem_var 5)) (sem_int 0)) (sem_consD (sem_clI (sem_consD (sem_var 1) sem_nilD)) sem_nilD))) (sem_var 5)))
    (sem_ite (sem_and (sem_tst (sem_op ov_eq (sem_var 4) (sem_int 2))) (sem_tst (sem_op ov_gt (sem_var 1) (sem_int 1))))
    (sem_drop (sem_mut mv_append (sem_consD (sem_tup (sem_consD (sem_clI (sem_consD (sem_op ov_sub (sem_var 1) (sem_int 1)) sem_nilD)) (sem_consD (sem_op ov_sub (sem_var 1) (sem_int 1)) sem_nilD))) sem_nilD)))
    (sem_drop (sem_mut0 mv_reverse)))))
    (sem_ret (sem_if (sem_tst (sem_op ov_eq (sem_clI (sem_consD (sem_int 3) sem_nilD)) (sem_int 0))) (sem_tupleOf (sem_var 3)) (sem_tupleOf (sem_call cv_sorted (sem_cons (sem_var 3) sem_nil)))))))
theorem ok_law_refused (T : Tx K mg) : FnG P w K mg base 8 T.a_law_refused T.d_law_refused ["call", "value"] (spF 2 K T.xc m_law_refused) := by
  refine fn_sem T.F_law_refused sc_law_refused rfl rfl fun cd A o s H E hg hr => ?_
  refine ⟨_, (pss_cons (ps_try_ms (i := 2) rfl rfl sc_law_refused.nd rfl rfl (takes_of rfl rfl rfl rfl)
    (fun W pn xe tk po => (pss_one (ps_if (pt_cmpR (k_eq K (by rfl) (hr.u 64)) (pv 0) pe_int (nomark _))
    (pss_one (ps_expr (pe_clK0 (E := atE W) (ok_strike_out (P := P) (w := w) (base := base) T) hg (hr.mono (by decide)) (by rfl) T.g_strike_out T.F_strike_out.kp T.kb_strike_out_0_word (fun σ => passAt tk σ) (pk_cons (pv 1) pk_nil))))
    (pss_one (ps_if (pt_cmpR (k_eq K (by rfl) (hr.u 64)) (pv 0) pe_int (nomark _))
    (pss_one (ps_expr (pe_clK0 (E := atE W) (ok_undo_word (P := P) (w := w) (base := base) T) hg (hr.mono (by decide)) (by rfl) T.g_undo_word T.F_undo_word.kp T.kb_undo_word_0_word (fun σ => passAt tk σ) (pk_cons (pv 1) pk_nil))))
    (pss_one (ps_if (pt_cmpR (k_eq K (by rfl) (hr.u 64)) (pv 0) pe_int (nomark _))
    (pss_one (ps_expr (pe_clK0 (E := atE W) (ok_join_words (P := P) (w := w) (base := base) T) hg (hr.mono (by decide)) (by rfl) T.g_join_words T.F_join_words.kp T.kb_join_words_0_one_other (fun σ => passAt tk σ) (pk_cons (pv 1) (pk_cons (pv 1) pk_nil)))))
    (pss_one (ps_if (pt_cmpR (k_eq K (by rfl) (hr.u 64)) (pv 0) pe_int (nomark _))
    (pss_one (ps_expr (pe_clK0 (E := atE W) (ok_join_words (P := P) (w := w) (base := base) T) hg (hr.mono (by decide)) (by rfl) T.g_join_words T.F_join_words.kp T.kb_join_words_0_one_other (fun σ => passAt tk σ) (pk_cons (pe_tup pa_nil) (pk_cons (pv 1) pk_nil)))))
    (pss_one (ps_if (pt_cmpR (k_eq K (by rfl) (hr.u 64)) (pv 0) pe_int (nomark _))
    (pss_one (ps_expr (pe_clK0 (E := atE W) (ok_strike_pairs (P := P) (w := w) (base := base) T) hg (hr.mono (by decide)) (by rfl) T.g_strike_pairs T.F_strike_pairs.kp T.kb_strike_pairs_0_word (fun σ => passAt tk σ) (pk_cons (pv 1) pk_nil))))
    (pss_one (ps_if (pt_cmpR (k_eq K (by rfl) (hr.u 64)) (pv 0) pe_int (nomark _))
    (pss_one (ps_expr (pe_clK0 (E := atE W) (ok_strikes_hold (P := P) (w := w) (base := base) T) hg (hr.mono (by decide)) (by rfl) T.g_strikes_hold T.F_strikes_hold.kp T.kb_strikes_hold_0_word_value (fun σ => passAt tk σ) (pk_cons (pv 1) (pk_cons (pe_tup pa_nil) pk_nil)))))
    (pss_one (ps_if (pt_cmpR (k_eq K (by rfl) (hr.u 64)) (pv 0) pe_int (nomark _))
    (pss_one (ps_expr (pe_clK0 (E := atE W) (ok_word_text (P := P) (w := w) (base := base) T) hg (hr.mono (by decide)) (by rfl) T.g_word_text T.F_word_text.kp T.kb_word_text_0_word (fun σ => passAt tk σ) (pk_cons (pv 1) pk_nil))))
    (pss_one (ps_expr (pe_clK0 (E := atE W) (ok_text_word (P := P) (w := w) (base := base) T) hg (hr.mono (by decide)) (by rfl) T.g_text_word T.F_text_word.kp T.kb_text_word_0_text (fun σ => passAt tk σ) (pk_cons (pv 1) pk_nil)))))))))))))))))))
    (HdN.cons ⟨rfl, by decide, .inl T.e1.gC⟩ (fun a oe cls d pn hz hf => (pss_one (ps_ret (pe_tup (pa_cons pe_str (pa_cons (pe_atE T.e1 hz hf (pv 2)) pa_nil))))))
    (HdN.cons ⟨rfl, by decide, .inl T.e0.gC⟩ (fun a oe cls d pn hz hf => (pss_one (ps_ret (pe_tup (pa_cons pe_str (pa_cons (pe_atE T.e0 hz hf (pv 2)) pa_nil))))))
    HdN.nil)))
    (pss_one (ps_ret pe_non))), fun vs => ?_⟩
  exact (sem_seq (sem_tryM (i := 2) (fun W => (sem_ite (sem_tst (sem_op ov_eq (sem_var 0) (sem_int 0)))
    (sem_drop (sem_clK sem_nilD (sem_consD (sem_var 1) sem_nilD)))
    (sem_ite (sem_tst (sem_op ov_eq (sem_var 0) (sem_int 1)))
    (sem_drop (sem_clK sem_nilD (sem_consD (sem_var 1) sem_nilD)))
    (sem_ite (sem_tst (sem_op ov_eq (sem_var 0) (sem_int 2)))
    (sem_drop (sem_clK sem_nilD (sem_consD (sem_var 1) (sem_consD (sem_var 1) sem_nilD))))
    (sem_ite (sem_tst (sem_op ov_eq (sem_var 0) (sem_int 3)))
    (sem_drop (sem_clK sem_nilD (sem_consD (sem_tup sem_nilD) (sem_consD (sem_var 1) sem_nilD))))
    (sem_ite (sem_tst (sem_op ov_eq (sem_var 0) (sem_int 4)))
    (sem_drop (sem_clK sem_nilD (sem_consD (sem_var 1) sem_nilD)))
    (sem_ite (sem_tst (sem_op ov_eq (sem_var 0) (sem_int 5)))
    (sem_drop (sem_clK sem_nilD (sem_consD (sem_var 1) (sem_consD (sem_tup sem_nilD) sem_nilD))))
    (sem_ite (sem_tst (sem_op ov_eq (sem_var 0) (sem_int 6)))
    (sem_drop (sem_clK sem_nilD (sem_consD (sem_var 1) sem_nilD)))
    (sem_drop (sem_clK sem_nilD (sem_consD (sem_var 1) sem_nilD)))))))))))
    (HL.cons (t := 1) T.xe1 T.e1.te (ne_cons T.n0_1 ne_nil) (fun a d => (sem_ret (sem_tup (sem_consD (sem_str "word") (sem_consD (sem_at (tag := 1) T.xe1) sem_nilD)))))
    (HL.cons (t := 0) T.xe0 T.e0.te ne_nil (fun a d => (sem_ret (sem_tup (sem_consD (sem_str "text") (sem_consD (sem_at (tag := 0) T.xe0) sem_nilD)))))
    HL.nil)))
    (sem_ret sem_non))
theorem ok_law_refusals_right (T : Tx K mg) : FnG P w K mg base 9 T.a_law_refusals_right T.d_law_refusals_right ["box", "word"] (spF 2 K T.xc m_law_refusals_right) := by
  refine fn_sem T.F_law_refusals_right sc_law_refusals_right rfl rfl fun cd A o s H E hg hr => ?_
  refine ⟨_, (pss_cons (ps_set (i := 2) sc_law_refusals_right.nd rfl (by first | exact .inl rfl | exact .inr rfl) (pe_cl (E := atE (fun cls d _ H => E cls d H)) (ok_law_pick (P := P) (w := w) (base := base) T) hg (hr.mono (by decide)) (by rfl) T.g_law_pick T.F_law_pick.kp T.b_law_pick (fun σ => passAt (takes_of rfl rfl rfl rfl) σ) (pa_cons (pv 0) (pa_cons (pe_lst (pa_cons pe_non (pa_cons (pe_tup (pa_cons pe_int (pa_cons pe_int pa_nil))) (pa_cons (pe_tup (pa_cons pe_int (pa_cons pe_int pa_nil))) (pa_cons (pe_tup (pa_cons pe_int (pa_cons pe_int pa_nil))) (pa_cons (pe_tup (pa_cons (pe_op op_sub pe_int pe_int) (pa_cons pe_int pa_nil))) (pa_cons (pe_tup (pa_cons pe_int (pa_cons pe_bl pa_nil))) (pa_cons (pe_tup (pa_cons pe_bl (pa_cons pe_int pa_nil))) (pa_cons (pe_tup (pa_cons pe_int pa_nil)) (pa_cons (pe_tup (pa_cons pe_int (pa_cons pe_int (pa_cons pe_int pa_nil)))) (pa_cons pe_str (pa_cons pe_int pa_nil)))))))))))) pa_nil))))
    (pss_cons (ps_set (i := 3) sc_law_refusals_right.nd rfl (by first | exact .inl rfl | exact .inr rfl) (pe_cl (E := atE (fun cls d _ H => E cls d H)) (ok_law_take (P := P) (w := w) (base := base) T) hg (hr.mono (by decide)) (by rfl) T.g_law_take T.F_law_take.kp T.b_law_take (fun σ => passAt (takes_of rfl rfl rfl rfl) σ) (pa_cons (pv 0) (pa_cons (pe_op (k_add K (by rfl)) (pe_callB (k_len K (by rfl)) (by rfl) T.m_len (by decide +kernel) (pa_cons (pv 1) pa_nil)) pe_int) pa_nil))))
    (pss_cons (ps_set (i := 4) sc_law_refusals_right.nd rfl (by first | exact .inl rfl | exact .inr rfl) (pe_op (k_add K (by rfl)) (pe_op (k_add K (by rfl)) (pe_callTy (k_list K (by rfl)) (by rfl) T.m_list (by decide +kernel) (pa_cons (pe_slice (k_sl K (by rfl)) (pv 1) po_none (po_some (pv 3))) pa_nil)) (pe_lst (pa_cons (pv 2) pa_nil))) (pe_callTy (k_list K (by rfl)) (by rfl) T.m_list (by decide +kernel) (pa_cons (pe_slice (k_sl K (by rfl)) (pv 1) (po_some (pv 3)) po_none) pa_nil))))
    (pss_cons (ps_set (i := 5) sc_law_refusals_right.nd rfl (by first | exact .inl rfl | exact .inr rfl) (pe_op (k_add K (by rfl)) (by exact (pe_lc (own := [("call", 7)]) rfl sc_law_refusals_right.nd (pi_range1 (by rfl) T.m_range (pa_cons pe_int pa_nil)) (blkOk_by (N := N_law_refusals_right) (sc := defScope s_law_refusals_right) (by decide +kernel)) (fun _ _ _ _ _ => by exact (pgn 7 (by exact sc_law_refusals_right.nd) (by rfl) (by first | exact .inl rfl | exact .inr rfl) (by first | exact .inr rfl | exact .inl rfl))) (fun _ _ _ _ _ => by exact pts_nil) (fun _ _ _ _ _ => by exact (pe_cl (E := atE EX0) (ok_law_refused (P := P) (w := w) (base := base) T) hg (hr.mono (by decide)) (by rfl) T.g_law_refused T.F_law_refused.kp T.b_law_refused (fun σ => pass_no σ) (pa_cons (pv 7) (pa_cons (pv 4) pa_nil)))))) (by exact (pe_lc (own := [("call", 7)]) rfl sc_law_refusals_right.nd (pi_range1 (by rfl) T.m_range (pa_cons pe_int pa_nil)) (blkOk_by (N := N_law_refusals_right) (sc := defScope s_law_refusals_right) (by decide +kernel)) (fun _ _ _ _ _ => by exact (pgn 7 (by exact sc_law_refusals_right.nd) (by rfl) (by first | exact .inl rfl | exact .inr rfl) (by first | exact .inr rfl | exact .inl rfl))) (fun _ _ _ _ _ => by exact pts_nil) (fun _ _ _ _ _ => by exact (pe_cl (E := atE EX0) (ok_law_refused (P := P) (w := w) (base := base) T) hg (hr.mono (by decide)) (by rfl) T.g_law_refused T.F_law_refused.kp T.b_law_refused (fun σ => pass_no σ) (pa_cons (pv 7) (pa_cons pe_non pa_nil))))))))
    (pss_cons (ps_set (i := 6) sc_law_refusals_right.nd rfl (by first | exact .inl rfl | exact .inr rfl) (pe_op (k_add K (by rfl)) (pe_op (k_add K (by rfl)) (pe_op (k_mulL K (by rfl)) (pe_lst (pa_cons (pe_tup (pa_cons pe_str (pa_cons (pe_op op_sub pe_int pe_int) pa_nil))) pa_nil)) pe_int) (pe_lst (pa_cons (pe_tup (pa_cons pe_str (pa_cons pe_int pa_nil))) (pa_cons (pe_tup (pa_cons pe_str (pa_cons pe_int pa_nil))) pa_nil)))) (pe_op (k_mulL K (by rfl)) (pe_lst (pa_cons (pe_tup (pa_cons pe_str (pa_cons (pe_op op_sub pe_int pe_int) pa_nil))) pa_nil)) pe_int)))
    (pss_one (ps_ret (pe_cmpR op_eq (pe_callB (k_repr K (by rfl) hg (hr.u 66)) (by rfl) T.m_repr (by decide +kernel) (pa_cons (pv 5) pa_nil)) (pe_callB (k_repr K (by rfl) hg (hr.u 66)) (by rfl) T.m_repr (by decide +kernel) (pa_cons (pe_op (k_add K (by rfl)) (pe_op (k_add K (by rfl)) (pv 6) (pv 6)) (pe_lst (pa_cons (pe_tup (pa_cons pe_str (pa_cons (pe_op op_sub pe_int pe_int) pa_nil))) pa_nil))) pa_nil)) (nomark _))))))))), fun vs => ?_⟩
  exact (sem_seq (sem_asg (sem_clI (sem_consD (sem_lst (sem_consD sem_non (sem_consD (sem_tup (sem_consD (sem_int 1) (sem_consD (sem_int 0) sem_nilD))) (sem_consD (sem_tup (sem_consD (sem_int 1) (sem_consD (sem_int 2) sem_nilD))) (sem_consD (sem_tup (sem_consD (sem_int 100) (sem_consD (sem_int 1) sem_nilD))) (sem_consD (sem_tup (sem_consD (sem_op ov_sub (sem_int 0) (sem_int 1)) (sem_consD (sem_int 1) sem_nilD))) (sem_consD (sem_tup (sem_consD (sem_int 1) (sem_consD (sem_bl true) sem_nilD))) (sem_consD (sem_tup (sem_consD (sem_bl true) (sem_consD (sem_int 1) sem_nilD))) (sem_consD (sem_tup (sem_consD (sem_int 1) sem_nilD)) (sem_consD (sem_tup (sem_consD (sem_int 1) (sem_consD (sem_int 1) (sem_consD (sem_int 1) sem_nilD)))) (sem_consD (sem_str "a1") (sem_consD (sem_int 7) sem_nilD)))))))))))) sem_nilD)))
    (sem_seq (sem_asg (sem_clI (sem_consD (sem_op ov_add (sem_call cv_len (sem_cons (sem_var 1) sem_nil)) (sem_int 1)) sem_nilD)))
    (sem_seq (sem_asg (sem_op ov_add (sem_op ov_add (sem_call cv_list (sem_cons (sem_sl (sem_var 1) sem_noO (sem_parO (sem_var 3))) sem_nil)) (sem_lst (sem_consD (sem_var 2) sem_nilD))) (sem_call cv_list (sem_cons (sem_sl (sem_var 1) (sem_parO (sem_var 3)) sem_noO) sem_nil))))
    (sem_seq (sem_asg (sem_op ov_add (sem_lc (vs := [7]) (sem_rng1 (sem_int 7)) sem_name sem_yes (sem_cl (sem_consD (sem_var 7) (sem_consD (sem_var 4) sem_nilD))) (by decide)) (sem_lc (vs := [7]) (sem_rng1 (sem_int 8)) sem_name sem_yes (sem_cl (sem_consD (sem_var 7) (sem_consD sem_non sem_nilD))) (by decide))))
    (sem_seq (sem_asg (sem_op ov_add (sem_op ov_add (sem_op ov_mulL (sem_lst (sem_consD (sem_tup (sem_consD (sem_str "word") (sem_consD (sem_op ov_sub (sem_int 0) (sem_int 1)) sem_nilD))) sem_nilD)) (sem_int 2)) (sem_lst (sem_consD (sem_tup (sem_consD (sem_str "word") (sem_consD (sem_int 0) sem_nilD))) (sem_consD (sem_tup (sem_consD (sem_str "word") (sem_consD (sem_int 1) sem_nilD))) sem_nilD)))) (sem_op ov_mulL (sem_lst (sem_consD (sem_tup (sem_consD (sem_str "word") (sem_consD (sem_op ov_sub (sem_int 0) (sem_int 1)) sem_nilD))) sem_nilD)) (sem_int 3))))
    (sem_ret (sem_op ov_eqS (sem_call cv_repr (sem_cons (sem_var 5) sem_nil)) (sem_call cv_repr (sem_cons (sem_op ov_add (sem_op ov_add (sem_var 6) (sem_var 6)) (sem_lst (sem_consD (sem_tup (sem_consD (sem_str "text") (sem_consD (sem_op ov_sub (sem_int 0) (sem_int 1)) sem_nilD))) sem_nilD))) sem_nil)))))))))
theorem ok_law_word_right (T : Tx K mg) : FnG P w K mg base 8 T.a_law_word_right T.d_law_word_right ["box", "word"] (spF 2 K T.xc m_law_word_right) := by
  refine fn_sem T.F_law_word_right sc_law_word_right rfl rfl fun cd A o s H E hg hr => ?_
  refine ⟨_, (pss_cons (ps_asg (pe_cl (E := atE (fun cls d _ H => E cls d H)) (ok_law_struck (P := P) (w := w) (base := base) T) hg (hr.mono (by decide)) (by rfl) T.g_law_struck T.F_law_struck.kp T.b_law_struck (fun σ => passAt (takes_of rfl rfl rfl rfl) σ) (pa_cons (pv 0) (pa_cons (pv 1) pa_nil))) (pgt K 2 (pgc (pgn 2 (by exact sc_law_word_right.nd) (by rfl) (by first | exact .inl rfl | exact .inr rfl) (by first | exact .inr rfl | exact .inl rfl)) (pgc (pgn 3 (by exact sc_law_word_right.nd) (by rfl) (by first | exact .inl rfl | exact .inr rfl) (by first | exact .inr rfl | exact .inl rfl)) pgs_nil (by rfl)) (by rfl)) (by rfl) (by rfl) (by rfl) (by rfl)))
    (pss_cons (ps_par (i := 4) (j := 5) rfl sc_law_word_right.nd rfl rfl (by decide) rfl rfl (pa_cons (pe_clK0 (E := atE (fun cls d _ H => E cls d H)) (ok_strike_pairs (P := P) (w := w) (base := base) T) hg (hr.mono (by decide)) (by rfl) T.g_strike_pairs T.F_strike_pairs.kp T.kb_strike_pairs_0_word (fun σ => passAt (takes_of rfl rfl rfl rfl) σ) (pk_cons (pv 1) pk_nil)) (pa_cons (by exact (pe_lc (own := [("one", 9)]) rfl sc_law_word_right.nd (k_sq K (by rfl) (pv 1)) (blkOk_by (N := N_law_word_right) (sc := defScope s_law_word_right) (by decide +kernel)) (fun _ _ _ _ _ => by exact (pgn 9 (by exact sc_law_word_right.nd) (by rfl) (by first | exact .inl rfl | exact .inr rfl) (by first | exact .inr rfl | exact .inl rfl))) (fun _ _ _ _ _ => by exact pts_nil) (fun _ _ _ _ _ => by exact (pe_callTy (k_list K (by rfl)) (by rfl) T.m_list (by decide +kernel) (pa_cons (pv 9) pa_nil))))) pa_nil)) (by rfl))
    (pss_cons (ps_if (PW.pt (pw_or (pt_cmpR op_ne (pe_callB (k_repr K (by rfl) hg (hr.u 66)) (by rfl) T.m_repr (by decide +kernel) (pa_cons (pe_clK0 (E := atE (fun cls d _ H => E cls d H)) (ok_strike_out (P := P) (w := w) (base := base) T) hg (hr.mono (by decide)) (by rfl) T.g_strike_out T.F_strike_out.kp T.kb_strike_out_0_word (fun σ => passAt (takes_of rfl rfl rfl rfl) σ) (pk_cons (pv 5) pk_nil)) pa_nil)) (pe_callB (k_repr K (by rfl) hg (hr.u 66)) (by rfl) T.m_repr (by decide +kernel) (pa_cons (pv 2) pa_nil)) (nomark _)) (pw_or1 (pt_cmpR op_ne (pe_callB (k_repr K (by rfl) hg (hr.u 66)) (by rfl) T.m_repr (by decide +kernel) (pa_cons (pe_cl (E := atE (fun cls d _ H => E cls d H)) (ok_strike_pairs (P := P) (w := w) (base := base) T) hg (hr.mono (by decide)) (by rfl) T.g_strike_pairs T.F_strike_pairs.kp T.b_strike_pairs (fun σ => passAt (takes_of rfl rfl rfl rfl) σ) (pa_cons (pv 5) pa_nil)) pa_nil)) (pe_callB (k_repr K (by rfl) hg (hr.u 66)) (by rfl) T.m_repr (by decide +kernel) (pa_cons (pv 4) pa_nil)) (nomark _)))))
    (pss_one (ps_ret pe_bl))
    pss_nil)
    (pss_cons (ps_expr (pe_bm PySem.F.plainAttrs_list PySem.F.slot_list_append PySem.F.type_list_append mt_append (pv 5) (pa_cons (pe_lst (pa_cons pe_int (pa_cons pe_int pa_nil))) pa_nil)))
    (pss_cons (ps_if (PW.pt (pw_or (pt_not (pt_val (pe_callB (k_isi K (by rfl)) (by rfl) T.m_isinstance (by decide +kernel) (pa_cons (pv 4) (pa_cons (pe_bltn (v := .ty "tuple") (by rfl) T.m_tuple (by decide +kernel) rfl) pa_nil))))) (pw_or (pt_cmpR (k_ne K (by rfl) (hr.u 64)) (pe_callB (k_len K (by rfl)) (by rfl) T.m_len (by decide +kernel) (pa_cons (pv 4) pa_nil)) (pe_callB (k_len K (by rfl)) (by rfl) T.m_len (by decide +kernel) (pa_cons (pv 3) pa_nil)) (nomark _)) (pw_or1 (pt_not (pt_val (pe_cl (E := atE (fun cls d _ H => E cls d H)) (ok_law_pairs_right (P := P) (w := w) (base := base) T) hg (hr.mono (by decide)) (by rfl) T.g_law_pairs_right T.F_law_pairs_right.kp T.b_law_pairs_right (fun σ => passAt (takes_of rfl rfl rfl rfl) σ) (pa_cons (pv 1) (pa_cons (pv 4) pa_nil)))))))))
    (pss_one (ps_ret pe_bl))
    pss_nil)
    (pss_cons (ps_if (PW.pt (pw_or (pt_not (pt_val (pe_clK0 (E := atE (fun cls d _ H => E cls d H)) (ok_strikes_hold (P := P) (w := w) (base := base) T) hg (hr.mono (by decide)) (by rfl) T.g_strikes_hold T.F_strikes_hold.kp T.kb_strikes_hold_0_word_value (fun σ => passAt (takes_of rfl rfl rfl rfl) σ) (pk_cons (pv 1) (pk_cons (k_tuple K (by rfl) (by rfl) T.m_tuple (pv 3) (by rfl)) pk_nil))))) (pw_or (pt_val (pe_cl (E := atE (fun cls d _ H => E cls d H)) (ok_strikes_hold (P := P) (w := w) (base := base) T) hg (hr.mono (by decide)) (by rfl) T.g_strikes_hold T.F_strikes_hold.kp T.b_strikes_hold (fun σ => passAt (takes_of rfl rfl rfl rfl) σ) (pa_cons (pv 1) (pa_cons (pv 3) pa_nil)))) (pw_or1 (pt_val (pe_cl (E := atE (fun cls d _ H => E cls d H)) (ok_strikes_hold (P := P) (w := w) (base := base) T) hg (hr.mono (by decide)) (by rfl) T.g_strikes_hold T.F_strikes_hold.kp T.b_strikes_hold (fun σ => passAt (takes_of rfl rfl rfl rfl) σ) (pa_cons (pv 1) (pa_cons pe_non pa_nil))))))))
    (pss_one (ps_ret pe_bl))
    pss_nil)
    (pss_cons (ps_for (passes_of rfl) rfl (pi_range1 (by rfl) T.m_range (pa_cons pe_int pa_nil)) (pgn 6 (by exact sc_law_word_right.nd) (by rfl) (by first | exact .inl rfl | exact .inr rfl) (by first | exact .inr rfl | exact .inl rfl))
    (pss_cons (ps_set (i := 7) sc_law_word_right.nd rfl (by first | exact .inl rfl | exact .inr rfl) (pe_cl (E := atE (fun cls d _ H => E cls d H)) (ok_law_spoilt (P := P) (w := w) (base := base) T) hg (hr.mono (by decide)) (by rfl) T.g_law_spoilt T.F_law_spoilt.kp T.b_law_spoilt (fun σ => passAt (takes_of rfl rfl rfl rfl) σ) (pa_cons (pv 0) (pa_cons (pe_callB (k_len K (by rfl)) (by rfl) T.m_len (by decide +kernel) (pa_cons (pv 1) pa_nil)) (pa_cons (pv 3) pa_nil)))))
    (pss_one (ps_if (pt_cmpR op_ne (pe_callB (k_repr K (by rfl) hg (hr.u 66)) (by rfl) T.m_repr (by decide +kernel) (pa_cons (pe_clK0 (E := atE (fun cls d _ H => E cls d H)) (ok_strikes_hold (P := P) (w := w) (base := base) T) hg (hr.mono (by decide)) (by rfl) T.g_strikes_hold T.F_strikes_hold.kp T.kb_strikes_hold_0_word_value (fun σ => passAt (takes_of rfl rfl rfl rfl) σ) (pk_cons (pv 1) (pk_cons (pv 7) pk_nil))) pa_nil)) (pe_callB (k_repr K (by rfl) hg (hr.u 66)) (by rfl) T.m_repr (by decide +kernel) (pa_cons (pe_cl (E := atE (fun cls d _ H => E cls d H)) (ok_law_pairs_right (P := P) (w := w) (base := base) T) hg (hr.mono (by decide)) (by rfl) T.g_law_pairs_right T.F_law_pairs_right.kp T.b_law_pairs_right (fun σ => passAt (takes_of rfl rfl rfl rfl) σ) (pa_cons (pv 1) (pa_cons (pv 7) pa_nil))) pa_nil)) (nomark _))
    (pss_one (ps_ret pe_bl))
    pss_nil))))
    (pss_cons (ps_set (i := 8) sc_law_word_right.nd rfl (by first | exact .inl rfl | exact .inr rfl) (pe_tup (pa_cons (pe_op (k_add K (by rfl)) (k_tuple K (by rfl) (by rfl) T.m_tuple (pv 3) (by rfl)) (pe_tup (pa_cons (pe_tup (pa_cons pe_int pa_nil)) pa_nil))) (pa_cons (pe_op (k_add K (by rfl)) (k_tuple K (by rfl) (by rfl) T.m_tuple (by exact (pe_lc (own := [("pair", 11)]) rfl sc_law_word_right.nd (k_sq K (by rfl) (pv 3)) (blkOk_by (N := N_law_word_right) (sc := defScope s_law_word_right) (by decide +kernel)) (fun _ _ _ _ _ => by exact (pgn 11 (by exact sc_law_word_right.nd) (by rfl) (by first | exact .inl rfl | exact .inr rfl) (by first | exact .inr rfl | exact .inl rfl))) (fun _ _ _ _ _ => by exact pts_nil) (fun _ _ _ _ _ => by exact (pe_callTy (k_list K (by rfl)) (by rfl) T.m_list (by decide +kernel) (pa_cons (pv 11) pa_nil))))) (by rfl)) (pe_tup (pa_cons (pe_lst (pa_cons pe_int (pa_cons pe_int pa_nil))) pa_nil))) (pa_cons (pe_op (k_add K (by rfl)) (k_tuple K (by rfl) (by rfl) T.m_tuple (pv 3) (by rfl)) (pe_tup (pa_cons (pe_tup (pa_cons (pe_callB (k_len K (by rfl)) (by rfl) T.m_len (by decide +kernel) (pa_cons (pv 1) pa_nil)) (pa_cons (pe_op (k_add K (by rfl)) (pe_callB (k_len K (by rfl)) (by rfl) T.m_len (by decide +kernel) (pa_cons (pv 1) pa_nil)) pe_int) pa_nil))) pa_nil))) pa_nil)))))
    (pss_one (ps_ret (pe_cmpR (k_notin K (by rfl) (hr.u 65)) pe_bl (by exact (pe_lc (own := [("value", 10)]) rfl sc_law_word_right.nd (k_sq K (by rfl) (pv 8)) (blkOk_by (N := N_law_word_right) (sc := defScope s_law_word_right) (by decide +kernel)) (fun _ _ _ _ _ => by exact (pgn 10 (by exact sc_law_word_right.nd) (by rfl) (by first | exact .inl rfl | exact .inr rfl) (by first | exact .inr rfl | exact .inl rfl))) (fun _ _ _ _ _ => by exact pts_nil) (fun _ _ _ _ _ => by exact (pe_cl (E := atE EX0) (ok_strikes_hold (P := P) (w := w) (base := base) T) hg (hr.mono (by decide)) (by rfl) T.g_strikes_hold T.F_strikes_hold.kp T.b_strikes_hold (fun σ => pass_no σ) (pa_cons (pv 1) (pa_cons (pv 10) pa_nil)))))) (by rfl)))))))))))), fun vs => ?_⟩
  exact (sem_seq (sem_tg (sem_gu (sem_gcons sem_name (sem_gcons sem_name sem_gnil))) (sem_clI (sem_consD (sem_var 1) sem_nilD)))
    (sem_seq (sem_par (sem_clK sem_nilD (sem_consD (sem_var 1) sem_nilD)) (sem_lc (vs := [9]) (sem_sq (sem_var 1)) sem_name sem_yes (sem_call cv_list (sem_cons (sem_var 9) sem_nil)) (by decide)))
    (sem_seq (sem_ite (sem_lend 5 (sem_or (sem_tst (sem_op ov_neS (sem_call cv_repr (sem_cons (sem_clK sem_nilD (sem_consD (sem_var 5) sem_nilD)) sem_nil)) (sem_call cv_repr (sem_cons (sem_var 2) sem_nil)))) (sem_tst (sem_op ov_neS (sem_call cv_repr (sem_cons (sem_cl (sem_consD (sem_var 5) sem_nilD)) sem_nil)) (sem_call cv_repr (sem_cons (sem_var 4) sem_nil))))))
    (sem_ret (sem_bl false))
    sem_next)
    (sem_seq (sem_drop (sem_mut mv_append (sem_consD (sem_lst (sem_consD (sem_int 0) (sem_consD (sem_int 1) sem_nilD))) sem_nilD)))
    (sem_seq (sem_ite (sem_or (sem_not (sem_tst (sem_isi (T := "tuple") (by decide) (sem_var 4)))) (sem_or (sem_tst (sem_op ov_ne (sem_call cv_len (sem_cons (sem_var 4) sem_nil)) (sem_call cv_len (sem_cons (sem_var 3) sem_nil)))) (sem_not (sem_tst (sem_cl (sem_consD (sem_var 1) (sem_consD (sem_var 4) sem_nilD)))))))
    (sem_ret (sem_bl false))
    sem_next)
    (sem_seq (sem_ite (sem_or (sem_not (sem_tst (sem_clK sem_nilD (sem_consD (sem_var 1) (sem_consD (sem_tupleOf (sem_var 3)) sem_nilD))))) (sem_or (sem_tst (sem_cl (sem_consD (sem_var 1) (sem_consD (sem_var 3) sem_nilD)))) (sem_tst (sem_cl (sem_consD (sem_var 1) (sem_consD sem_non sem_nilD))))))
    (sem_ret (sem_bl false))
    sem_next)
    (sem_seq (sem_for (sem_rng1 (sem_int 3)) sem_name
    (sem_seq (sem_asg (sem_clI (sem_consD (sem_call cv_len (sem_cons (sem_var 1) sem_nil)) (sem_consD (sem_var 3) sem_nilD))))
    (sem_ite (sem_tst (sem_op ov_neS (sem_call cv_repr (sem_cons (sem_clK sem_nilD (sem_consD (sem_var 1) (sem_consD (sem_var 7) sem_nilD))) sem_nil)) (sem_call cv_repr (sem_cons (sem_cl (sem_consD (sem_var 1) (sem_consD (sem_var 7) sem_nilD))) sem_nil))))
    (sem_ret (sem_bl false))
    sem_next)))
    (sem_seq (sem_asg (sem_tup (sem_consD (sem_op ov_add (sem_tupleOf (sem_var 3)) (sem_tup (sem_consD (sem_tup (sem_consD (sem_int 0) sem_nilD)) sem_nilD))) (sem_consD (sem_op ov_add (sem_tupleOf (sem_lc (vs := [11]) (sem_sq (sem_var 3)) sem_name sem_yes (sem_call cv_list (sem_cons (sem_var 11) sem_nil)) (by decide))) (sem_tup (sem_consD (sem_lst (sem_consD (sem_int 0) (sem_consD (sem_int 1) sem_nilD))) sem_nilD))) (sem_consD (sem_op ov_add (sem_tupleOf (sem_var 3)) (sem_tup (sem_consD (sem_tup (sem_consD (sem_call cv_len (sem_cons (sem_var 1) sem_nil)) (sem_consD (sem_op ov_add (sem_call cv_len (sem_cons (sem_var 1) sem_nil)) (sem_int 1)) sem_nilD))) sem_nilD))) sem_nilD)))))
    (sem_ret (sem_op ov_notin (sem_bl true) (sem_lc (vs := [10]) (sem_sq (sem_var 8)) sem_name sem_yes (sem_cl (sem_consD (sem_var 1) (sem_consD (sem_var 10) sem_nilD))) (by decide))))))))))))
theorem ok_law (T : Tx K mg) : FnG P w K mg base 10 T.a_law T.d_law ["script"] (spF 1 K T.xc m_law) := by
  refine fn_sem T.F_law sc_law rfl rfl fun cd A o s H E hg hr => ?_
  refine ⟨_, (pss_cons (ps_if (PW.pt (pw_or (pt_cmpR (k_ne K (by rfl) (hr.u 64)) (pe_cl (E := atE (fun cls d _ H => E cls d H)) (ok_strike_out (P := P) (w := w) (base := base) T) hg (hr.mono (by decide)) (by rfl) T.g_strike_out T.F_strike_out.kp T.b_strike_out (fun σ => passAt (takes_of rfl rfl rfl rfl) σ) (pa_cons (pe_tup (pa_cons (pe_tup (pa_cons pe_int (pa_cons pe_int pa_nil))) (pa_cons (pe_tup (pa_cons pe_int (pa_cons pe_int pa_nil))) (pa_cons (pe_tup (pa_cons pe_int (pa_cons (pe_op op_sub pe_int pe_int) pa_nil))) (pa_cons (pe_tup (pa_cons pe_int (pa_cons (pe_op op_sub pe_int pe_int) pa_nil))) (pa_cons (pe_tup (pa_cons pe_int (pa_cons (pe_op op_sub pe_int pe_int) pa_nil))) pa_nil)))))) pa_nil)) (pe_tup (pa_cons (pe_tup (pa_cons pe_int (pa_cons (pe_op op_sub pe_int pe_int) pa_nil))) pa_nil)) (nomark _)) (pw_or1 (pt_cmpR (k_ne K (by rfl) (hr.u 64)) (pe_cl (E := atE (fun cls d _ H => E cls d H)) (ok_strike_out (P := P) (w := w) (base := base) T) hg (hr.mono (by decide)) (by rfl) T.g_strike_out T.F_strike_out.kp T.b_strike_out (fun σ => passAt (takes_of rfl rfl rfl rfl) σ) (pa_cons (pe_tup pa_nil) pa_nil)) (pe_tup pa_nil) (nomark _)))))
    (pss_one (ps_ret pe_bl))
    pss_nil)
    (pss_cons (ps_for (passes_of rfl) rfl (pi_range1 (by rfl) T.m_range (pa_cons (pe_callB (call_max2A rfl) (by rfl) T.m_max (by decide +kernel) (pa_cons pe_int (pa_cons (pe_callB (call_min2A rfl) (by rfl) T.m_min (by decide +kernel) (pa_cons pe_int (pa_cons (pe_callB (k_len K (by rfl)) (by rfl) T.m_len (by decide +kernel) (pa_cons (pv 0) pa_nil)) pa_nil))) pa_nil))) pa_nil)) (pgn 1 (by exact sc_law.nd) (by rfl) (by first | exact .inl rfl | exact .inr rfl) (by first | exact .inr rfl | exact .inl rfl))
    (pss_cons (ps_set (i := 2) sc_law.nd rfl (by first | exact .inl rfl | exact .inr rfl) (pe_cl (E := atE (fun cls d _ H => E cls d H)) (ok_law_box (P := P) (w := w) (base := base) T) hg (hr.mono (by decide)) (by rfl) T.g_law_box T.F_law_box.kp T.b_law_box (fun σ => passAt (takes_of rfl rfl rfl rfl) σ) (pa_cons (pv 0) (pa_cons (pv 1) pa_nil))))
    (pss_cons (ps_setLc (i := 3) (own := [("turn", 10)]) rfl sc_law.nd rfl rfl (sw_true rfl rfl rfl (by decide +kernel)) (pi_range1 (by rfl) T.m_range (pa_cons pe_int pa_nil)) (blkOk_by (N := N_law) (sc := defScope s_law) (by decide +kernel)) (fun _ _ _ _ _ => by exact (pgn 10 (by exact sc_law.nd) (by rfl) (by first | exact .inl rfl | exact .inr rfl) (by first | exact .inr rfl | exact .inl rfl))) (fun _ _ _ _ _ => by exact pts_nil) (fun _ _ _ _ _ => by exact (pe_cl (E := atE EX0) (ok_law_take (P := P) (w := w) (base := base) T) hg (hr.mono (by decide)) (by rfl) T.g_law_take T.F_law_take.kp T.b_law_take (fun σ => pass_no σ) (pa_cons (pv 2) (pa_cons pe_int pa_nil)))))
    (pss_cons (ps_par (i := 4) (j := 5) rfl sc_law.nd rfl rfl (by decide) rfl rfl (pa_cons (pe_cl (E := atE (fun cls d _ H => E cls d H)) (ok_law_word (P := P) (w := w) (base := base) T) hg (hr.mono (by decide)) (by rfl) T.g_law_word T.F_law_word.kp T.b_law_word (fun σ => passAt (takes_of rfl rfl rfl rfl) σ) (pa_cons (pv 2) (pa_cons (pv 3) pa_nil))) (pa_cons (pe_cl (E := atE (fun cls d _ H => E cls d H)) (ok_law_word (P := P) (w := w) (base := base) T) hg (hr.mono (by decide)) (by rfl) T.g_law_word T.F_law_word.kp T.b_law_word (fun σ => passAt (takes_of rfl rfl rfl rfl) σ) (pa_cons (pv 2) (pa_cons (pv 3) pa_nil))) pa_nil)) (by rfl))
    (pss_cons (ps_if (PW.pt (pw_or (pt_not (pt_val (pe_cl (E := atE (fun cls d _ H => E cls d H)) (ok_law_word_right (P := P) (w := w) (base := base) T) hg (hr.mono (by decide)) (by rfl) T.g_law_word_right T.F_law_word_right.kp T.b_law_word_right (fun σ => passAt (takes_of rfl rfl rfl rfl) σ) (pa_cons (pv 2) (pa_cons (pv 4) pa_nil))))) (pw_or (pt_not (pt_val (pe_cl (E := atE (fun cls d _ H => E cls d H)) (ok_law_word_right (P := P) (w := w) (base := base) T) hg (hr.mono (by decide)) (by rfl) T.g_law_word_right T.F_law_word_right.kp T.b_law_word_right (fun σ => passAt (takes_of rfl rfl rfl rfl) σ) (pa_cons (pv 2) (pa_cons (pv 5) pa_nil))))) (pw_or1 (pt_not (pt_val (pe_cl (E := atE (fun cls d _ H => E cls d H)) (ok_law_refusals_right (P := P) (w := w) (base := base) T) hg (hr.mono (by decide)) (by rfl) T.g_law_refusals_right T.F_law_refusals_right.kp T.b_law_refusals_right (fun σ => passAt (takes_of rfl rfl rfl rfl) σ) (pa_cons (pv 2) (pa_cons (pv 4) pa_nil)))))))))
    (pss_one (ps_ret pe_bl))
    pss_nil)
    (pss_cons (ps_set (i := 6) sc_law.nd rfl (by first | exact .inl rfl | exact .inr rfl) (k_tuple K (by rfl) (by rfl) T.m_tuple (by exact (pe_lc (own := [("letter", 11), ("sign", 12)]) rfl sc_law.nd (k_sq K (by rfl) (k_stp K (by rfl) (pv 4) (po_some (pe_un un_neg pe_int)) (by intro _ _; with_unfolding_all rfl))) (blkOk_by (N := N_law) (sc := defScope s_law) (by decide +kernel)) (fun _ _ _ _ _ => by exact (pgt K 2 (pgc (pgn 11 (by exact sc_law.nd) (by rfl) (by first | exact .inl rfl | exact .inr rfl) (by first | exact .inr rfl | exact .inl rfl)) (pgc (pgn 12 (by exact sc_law.nd) (by rfl) (by first | exact .inl rfl | exact .inr rfl) (by first | exact .inr rfl | exact .inl rfl)) pgs_nil (by rfl)) (by rfl)) (by rfl) (by rfl) (by rfl) (by rfl))) (fun _ _ _ _ _ => by exact pts_nil) (fun _ _ _ _ _ => by exact (pe_tup (pa_cons (pv 11) (pa_cons (pe_op op_sub pe_int (pv 12)) pa_nil)))))) (by rfl)))
    (pss_cons (ps_if (PW.pt (pw_or (pt_cmpR op_ne (pe_callB (k_repr K (by rfl) hg (hr.u 66)) (by rfl) T.m_repr (by decide +kernel) (pa_cons (pe_clK0 (E := atE (fun cls d _ H => E cls d H)) (ok_undo_word (P := P) (w := w) (base := base) T) hg (hr.mono (by decide)) (by rfl) T.g_undo_word T.F_undo_word.kp T.kb_undo_word_0_word (fun σ => passAt (takes_of rfl rfl rfl rfl) σ) (pk_cons (pe_callTy (k_list K (by rfl)) (by rfl) T.m_list (by decide +kernel) (pa_cons (pv 4) pa_nil)) pk_nil)) pa_nil)) (pe_callB (k_repr K (by rfl) hg (hr.u 66)) (by rfl) T.m_repr (by decide +kernel) (pa_cons (pv 6) pa_nil)) (nomark _)) (pw_or1 (pt_cmpR (k_ne K (by rfl) (hr.u 64)) (pe_clK0 (E := atE (fun cls d _ H => E cls d H)) (ok_join_words (P := P) (w := w) (base := base) T) hg (hr.mono (by decide)) (by rfl) T.g_join_words T.F_join_words.kp T.kb_join_words_0_one_other (fun σ => passAt (takes_of rfl rfl rfl rfl) σ) (pk_cons (pv 4) (pk_cons (pv 6) pk_nil))) (pe_tup pa_nil) (nomark _)))))
    (pss_one (ps_ret pe_bl))
    pss_nil)
    (pss_cons (ps_set (i := 7) sc_law.nd rfl (by first | exact .inl rfl | exact .inr rfl) (pe_ix (k_ix K (by rfl)) (pe_cl (E := atE (fun cls d _ H => E cls d H)) (ok_law_struck (P := P) (w := w) (base := base) T) hg (hr.mono (by decide)) (by rfl) T.g_law_struck T.F_law_struck.kp T.b_law_struck (fun σ => passAt (takes_of rfl rfl rfl rfl) σ) (pa_cons (pv 2) (pa_cons (pe_op (k_add K (by rfl)) (pv 4) (pv 5)) pa_nil))) pe_int (fun _ _ => rfl)))
    (pss_cons (ps_if (PW.pt (pw_or (pt_cmpR op_ne (pe_callB (k_repr K (by rfl) hg (hr.u 66)) (by rfl) T.m_repr (by decide +kernel) (pa_cons (pe_clK0 (E := atE (fun cls d _ H => E cls d H)) (ok_join_words (P := P) (w := w) (base := base) T) hg (hr.mono (by decide)) (by rfl) T.g_join_words T.F_join_words.kp T.kb_join_words_0_one_other (fun σ => passAt (takes_of rfl rfl rfl rfl) σ) (pk_cons (pv 4) (pk_cons (pe_callTy (k_list K (by rfl)) (by rfl) T.m_list (by decide +kernel) (pa_cons (pv 5) pa_nil)) pk_nil))) pa_nil)) (pe_callB (k_repr K (by rfl) hg (hr.u 66)) (by rfl) T.m_repr (by decide +kernel) (pa_cons (pv 7) pa_nil)) (nomark _)) (pw_or1 (pt_cmpR op_ne (pe_callB (k_repr K (by rfl) hg (hr.u 66)) (by rfl) T.m_repr (by decide +kernel) (pa_cons (pe_cl (E := atE (fun cls d _ H => E cls d H)) (ok_strike_out (P := P) (w := w) (base := base) T) hg (hr.mono (by decide)) (by rfl) T.g_strike_out T.F_strike_out.kp T.b_strike_out (fun σ => passAt (takes_of rfl rfl rfl rfl) σ) (pa_cons (pv 4) pa_nil)) pa_nil)) (pe_callB (k_repr K (by rfl) hg (hr.u 66)) (by rfl) T.m_repr (by decide +kernel) (pa_cons (pe_ix (k_ix K (by rfl)) (pe_cl (E := atE (fun cls d _ H => E cls d H)) (ok_law_struck (P := P) (w := w) (base := base) T) hg (hr.mono (by decide)) (by rfl) T.g_law_struck T.F_law_struck.kp T.b_law_struck (fun σ => passAt (takes_of rfl rfl rfl rfl) σ) (pa_cons (pv 2) (pa_cons (pv 4) pa_nil))) pe_int (fun _ _ => rfl)) pa_nil)) (nomark _)))))
    (pss_one (ps_ret pe_bl))
    pss_nil)
    (pss_cons (ps_setLc (i := 8) (own := [("letter", 11), ("sign", 12)]) rfl sc_law.nd rfl rfl (sw_true rfl rfl rfl (by decide +kernel)) (k_sq K (by rfl) (pv 7)) (blkOk_by (N := N_law) (sc := defScope s_law) (by decide +kernel)) (fun _ _ _ _ _ => by exact (pgt K 2 (pgc (pgn 11 (by exact sc_law.nd) (by rfl) (by first | exact .inl rfl | exact .inr rfl) (by first | exact .inr rfl | exact .inl rfl)) (pgc (pgn 12 (by exact sc_law.nd) (by rfl) (by first | exact .inl rfl | exact .inr rfl) (by first | exact .inr rfl | exact .inl rfl)) pgs_nil (by rfl)) (by rfl)) (by rfl) (by rfl) (by rfl) (by rfl))) (fun _ _ _ _ _ => by exact (pts_one (pt_cmpR (k_eq K (by rfl) (hr.u 64)) (pv 12) pe_int (nomark _)))) (fun _ _ _ _ _ => by exact (pv 11)))
    (pss_cons (ps_set (i := 9) sc_law.nd rfl (by first | exact .inl rfl | exact .inr rfl) (pe_ifExp (pt_cmpR (k_eq K (by rfl) (hr.u 64)) (pe_callB (k_len K (by rfl)) (by rfl) T.m_len (by decide +kernel) (pa_cons (pv 8) pa_nil)) (pe_callB (k_len K (by rfl)) (by rfl) T.m_len (by decide +kernel) (pa_cons (pv 7) pa_nil)) (nomark _)) (k_tuple K (by rfl) (by rfl) T.m_tuple (pv 8) (by rfl)) pe_non))
    (pss_cons (ps_if (PW.pt (pw_or (pt_cmpR op_ne (pe_callB (k_repr K (by rfl) hg (hr.u 66)) (by rfl) T.m_repr (by decide +kernel) (pa_cons (pe_clK0 (E := atE (fun cls d _ H => E cls d H)) (ok_word_text (P := P) (w := w) (base := base) T) hg (hr.mono (by decide)) (by rfl) T.g_word_text T.F_word_text.kp T.kb_word_text_0_word (fun σ => passAt (takes_of rfl rfl rfl rfl) σ) (pk_cons (pe_op (k_add K (by rfl)) (pv 4) (pv 5)) pk_nil)) pa_nil)) (pe_callB (k_repr K (by rfl) hg (hr.u 66)) (by rfl) T.m_repr (by decide +kernel) (pa_cons (pv 9) pa_nil)) (nomark _)) (pw_or1 (pt_cmpR op_ne (pe_callB (k_repr K (by rfl) hg (hr.u 66)) (by rfl) T.m_repr (by decide +kernel) (pa_cons (pe_cl (E := atE (fun cls d _ H => E cls d H)) (ok_word_text (P := P) (w := w) (base := base) T) hg (hr.mono (by decide)) (by rfl) T.g_word_text T.F_word_text.kp T.b_word_text (fun σ => passAt (takes_of rfl rfl rfl rfl) σ) (pa_cons (pe_callTy (k_list K (by rfl)) (by rfl) T.m_list (by decide +kernel) (pa_cons (pe_clK0 (E := atE (fun cls d _ H => E cls d H)) (ok_text_word (P := P) (w := w) (base := base) T) hg (hr.mono (by decide)) (by rfl) T.g_text_word T.F_text_word.kp T.kb_text_word_0_text (fun σ => passAt (takes_of rfl rfl rfl rfl) σ) (pk_cons (pv 8) pk_nil)) pa_nil)) pa_nil)) pa_nil)) (pe_callB (k_repr K (by rfl) hg (hr.u 66)) (by rfl) T.m_repr (by decide +kernel) (pa_cons (k_tuple K (by rfl) (by rfl) T.m_tuple (pv 8) (by rfl)) pa_nil)) (nomark _)))))
    (pss_one (ps_ret pe_bl))
    pss_nil)
    (pss_one (ps_if (pt_cmpR op_ne (pe_callB (k_repr K (by rfl) hg (hr.u 66)) (by rfl) T.m_repr (by decide +kernel) (pa_cons (pe_cl (E := atE (fun cls d _ H => E cls d H)) (ok_text_word (P := P) (w := w) (base := base) T) hg (hr.mono (by decide)) (by rfl) T.g_text_word T.F_text_word.kp T.b_text_word (fun σ => passAt (takes_of rfl rfl rfl rfl) σ) (pa_cons (k_tuple K (by rfl) (by rfl) T.m_tuple (pv 8) (by rfl)) pa_nil)) pa_nil)) (pe_callB (k_repr K (by rfl) hg (hr.u 66)) (by rfl) T.m_repr (by decide +kernel) (pa_cons (k_tuple K (by rfl) (by rfl) T.m_tuple (by exact (pe_lc (own := [("letter", 11)]) rfl sc_law.nd (k_sq K (by rfl) (pv 8)) (blkOk_by (N := N_law) (sc := defScope s_law) (by decide +kernel)) (fun _ _ _ _ _ => by exact (pgn 11 (by exact sc_law.nd) (by rfl) (by first | exact .inl rfl | exact .inr rfl) (by first | exact .inr rfl | exact .inl rfl))) (fun _ _ _ _ _ => by exact pts_nil) (fun _ _ _ _ _ => by exact (pe_tup (pa_cons (pv 11) (pa_cons pe_int pa_nil)))))) (by rfl)) pa_nil)) (nomark _))
    (pss_one (ps_ret pe_bl))
    pss_nil))))))))))))))
    (pss_one (ps_ret pe_bl)))), fun vs => ?_⟩
  exact (sem_seq (sem_ite (sem_or (sem_tst (sem_op ov_ne (sem_cl (sem_consD (sem_tup (sem_consD (sem_tup (sem_consD (sem_int 3) (sem_consD (sem_int 1) sem_nilD))) (sem_consD (sem_tup (sem_consD (sem_int 5) (sem_consD (sem_int 1) sem_nilD))) (sem_consD (sem_tup (sem_consD (sem_int 5) (sem_consD (sem_op ov_sub (sem_int 0) (sem_int 1)) sem_nilD))) (sem_consD (sem_tup (sem_consD (sem_int 3) (sem_consD (sem_op ov_sub (sem_int 0) (sem_int 1)) sem_nilD))) (sem_consD (sem_tup (sem_consD (sem_int 9) (sem_consD (sem_op ov_sub (sem_int 0) (sem_int 1)) sem_nilD))) sem_nilD)))))) sem_nilD)) (sem_tup (sem_consD (sem_tup (sem_consD (sem_int 9) (sem_consD (sem_op ov_sub (sem_int 0) (sem_int 1)) sem_nilD))) sem_nilD)))) (sem_tst (sem_op ov_ne (sem_cl (sem_consD (sem_tup sem_nilD) sem_nilD)) (sem_tup sem_nilD))))
    (sem_ret (sem_bl false))
    sem_next)
    (sem_seq (sem_for (sem_rng1 (sem_call cv_max2 (sem_cons (sem_int 2) (sem_cons (sem_call cv_min2 (sem_cons (sem_int 4) (sem_cons (sem_call cv_len (sem_cons (sem_var 0) sem_nil)) sem_nil))) sem_nil)))) sem_name
    (sem_seq (sem_asg (sem_cl (sem_consD (sem_var 0) (sem_consD (sem_var 1) sem_nilD))))
    (sem_seq (sem_asg (sem_lc (vs := [10]) (sem_rng1 (sem_int 3)) sem_name sem_yes (sem_clI (sem_consD (sem_int 100) sem_nilD)) (by decide)))
    (sem_seq (sem_par (sem_clI (sem_consD (sem_var 3) sem_nilD)) (sem_clI (sem_consD (sem_var 3) sem_nilD)))
    (sem_seq (sem_ite (sem_or (sem_not (sem_tst (sem_clI (sem_consD (sem_var 4) sem_nilD)))) (sem_or (sem_not (sem_tst (sem_clI (sem_consD (sem_var 5) sem_nilD)))) (sem_not (sem_tst (sem_clI (sem_consD (sem_var 4) sem_nilD))))))
    (sem_ret (sem_bl false))
    sem_next)
    (sem_seq (sem_asg (sem_tupleOf (sem_lc (vs := [11, 12]) (sem_sq (sem_stp (sem_var 4) (sem_parO (sem_neg (sem_int 1))))) (sem_gu (sem_gcons sem_name (sem_gcons sem_name sem_gnil))) sem_yes (sem_tup (sem_consD (sem_var 11) (sem_consD (sem_op ov_sub (sem_int 0) (sem_var 12)) sem_nilD))) (by decide))))
    (sem_seq (sem_ite (sem_or (sem_tst (sem_op ov_neS (sem_call cv_repr (sem_cons (sem_clK sem_nilD (sem_consD (sem_call cv_list (sem_cons (sem_var 4) sem_nil)) sem_nilD)) sem_nil)) (sem_call cv_repr (sem_cons (sem_var 6) sem_nil)))) (sem_tst (sem_op ov_ne (sem_clK sem_nilD (sem_consD (sem_var 4) (sem_consD (sem_var 6) sem_nilD))) (sem_tup sem_nilD))))
    (sem_ret (sem_bl false))
    sem_next)
    (sem_seq (sem_asg (sem_op ov_ix (sem_clI (sem_consD (sem_op ov_add (sem_var 4) (sem_var 5)) sem_nilD)) (sem_int 0)))
    (sem_seq (sem_ite (sem_or (sem_tst (sem_op ov_neS (sem_call cv_repr (sem_cons (sem_clK sem_nilD (sem_consD (sem_var 4) (sem_consD (sem_call cv_list (sem_cons (sem_var 5) sem_nil)) sem_nilD))) sem_nil)) (sem_call cv_repr (sem_cons (sem_var 7) sem_nil)))) (sem_tst (sem_op ov_neS (sem_call cv_repr (sem_cons (sem_cl (sem_consD (sem_var 4) sem_nilD)) sem_nil)) (sem_call cv_repr (sem_cons (sem_op ov_ix (sem_clI (sem_consD (sem_var 4) sem_nilD)) (sem_int 0)) sem_nil)))))
    (sem_ret (sem_bl false))
    sem_next)
    (sem_seq (sem_asg (sem_lc (vs := [11, 12]) (sem_sq (sem_var 7)) (sem_gu (sem_gcons sem_name (sem_gcons sem_name sem_gnil))) (sem_tst (sem_op ov_eq (sem_var 12) (sem_int 1))) (sem_var 11) (by decide)))
    (sem_seq (sem_asg (sem_if (sem_tst (sem_op ov_eq (sem_call cv_len (sem_cons (sem_var 8) sem_nil)) (sem_call cv_len (sem_cons (sem_var 7) sem_nil)))) (sem_tupleOf (sem_var 8)) sem_non))
    (sem_seq (sem_ite (sem_or (sem_tst (sem_op ov_neS (sem_call cv_repr (sem_cons (sem_clK sem_nilD (sem_consD (sem_op ov_add (sem_var 4) (sem_var 5)) sem_nilD)) sem_nil)) (sem_call cv_repr (sem_cons (sem_var 9) sem_nil)))) (sem_tst (sem_op ov_neS (sem_call cv_repr (sem_cons (sem_cl (sem_consD (sem_call cv_list (sem_cons (sem_clK sem_nilD (sem_consD (sem_var 8) sem_nilD)) sem_nil)) sem_nilD)) sem_nil)) (sem_call cv_repr (sem_cons (sem_tupleOf (sem_var 8)) sem_nil)))))
    (sem_ret (sem_bl false))
    sem_next)
    (sem_ite (sem_tst (sem_op ov_neS (sem_call cv_repr (sem_cons (sem_cl (sem_consD (sem_tupleOf (sem_var 8)) sem_nilD)) sem_nil)) (sem_call cv_repr (sem_cons (sem_tupleOf (sem_lc (vs := [11]) (sem_sq (sem_var 8)) sem_name sem_yes (sem_tup (sem_consD (sem_var 11) (sem_consD (sem_int 1) sem_nilD))) (by decide))) sem_nil))))
    (sem_ret (sem_bl false))
    sem_next)))))))))))))
    (sem_ret (sem_bl true))))
end
end K01
end VL

namespace VL
open PySem PySem.Spec PyProof.Rows L2
open PySem.W (Datum Tup)
/-! ### reading off what is returned -/
def out (o : So) : Option Rs := match o with
  | .rt r ρ => retV ρ r
  | .nx _ => some (.im .none)
  | _ => none
theorem foE_of {n k : Nat} {G : Rho → So} {ds : List D} {d : D} (h : out (G (ds.map .im ++ unS k)) = some (.im d)) (hn : ds.length = n) (ρ : Rho) : foE n (mF n k G) ds ρ = .ok (.im d) ρ := by
  unfold foE mF
  rw [if_pos hn]
  cases e : G (ds.map .im ++ unS k) with
  | rt r ρ' =>
    rw [e] at h
    have h : retV ρ' r = some (.im d) := h
    show (match (match retV ρ' r with | some r' => Fo.rt r' (outA n ρ') | none => .bad) with | .rt (.im d) _ => Ou.ok (Rs.im d) ρ | .rt (.fr es) _ => .ok (.fr es) ρ | .ex tag d _ => .ex tag d ρ | _ => .bad) = _
    rw [h]
  | nx ρ' => rw [e] at h; cases Option.some.inj h; rfl
  | bad => rw [e] at h; cases h
  | bk _ => rw [e] at h; cases h
  | ct _ => rw [e] at h; cases h
  | ex _ _ _ => rw [e] at h; cases h
theorem foE_fr {n k : Nat} {G : Rho → So} {ds : List D} {d : List D} (h : out (G (ds.map .im ++ unS k)) = some (.fr d)) (hn : ds.length = n) (ρ : Rho) : foE n (mF n k G) ds ρ = .ok (.fr d) ρ := by
  unfold foE mF
  rw [if_pos hn]
  cases e : G (ds.map .im ++ unS k) with
  | rt r ρ' =>
    rw [e] at h
    have h : retV ρ' r = some (.fr d) := h
    show (match (match retV ρ' r with | some r' => Fo.rt r' (outA n ρ') | none => .bad) with | .rt (.im d) _ => Ou.ok (Rs.im d) ρ | .rt (.fr es) _ => .ok (.fr es) ρ | .ex tag d _ => .ex tag d ρ | _ => .bad) = _
    rw [h]
  | nx ρ' => rw [e] at h; cases Option.some.inj h
  | bad => rw [e] at h; cases h
  | bk _ => rw [e] at h; cases h
  | ct _ => rw [e] at h; cases h
  | ex _ _ _ => rw [e] at h; cases h
def ti (xs : List Int) : D := .tuple (xs.map .int)
def li (xs : List Int) : D := .list (xs.map .int)
namespace K01
theorem v_is_integer (d : D) (ρ : Rho) : foE 1 m_is_integer [d] ρ = .ok (.im (.bool (isI "int" d && !isI "bool" d))) ρ := by
  refine foE_of ?_ rfl ρ
  cases d <;> rfl
theorem v_is_number (d : D) (ρ : Rho) : foE 1 m_is_number [d] ρ = .ok (.im (.bool (match d with | .int i => decide (0 ≤ i) | _ => false))) ρ := by
  refine foE_of ?_ rfl ρ
  cases d <;> rfl
theorem v_is_number_below (d : D) (k : Int) (ρ : Rho) : foE 2 m_is_number_below [d, .int k] ρ = .ok (.im (.bool (match d with | .int i => decide (0 ≤ i) && decide (i < k) | _ => false))) ρ := by
  refine foE_of ?_ rfl ρ
  unfold G_is_number_below
  cases d with
  | int i =>
    by_cases h : 0 ≤ i <;>
      simp [retS, clF, bd, bs, consD, nilD, varF, cF, dat, frz, andV, tstF, v_is_number, blO, opF, op2, fin, ltD, intD, dr, unS, h, out, retV]
  | _ => rfl
def isLet (d : D) : Bool := match d with
  | .int i => decide (0 ≤ i) && decide (i < 100)
  | _ => false
theorem v_is_letter (d : D) (ρ : Rho) : foE 1 m_is_letter [d] ρ = .ok (.im (.bool (isLet d))) ρ := by
  refine foE_of ?_ rfl ρ
  unfold G_is_letter
  simp [retS, clF, bd, bs, consD, nilD, varF, cF, dat, frz, v_is_number_below, unS, out, retV]
  rfl
def isSeq (d : D) : Option (List D) := match d with
  | .list ds => some ds
  | .tuple ds => some ds
  | _ => none
theorem v_is_sequence (d : D) (ρ : Rho) : foE 1 m_is_sequence [d] ρ = .ok (.im (.bool (isSeq d).isSome)) ρ :=
  foE_of (n := 1) (k := 0) (G := G_is_sequence) (ds := [d]) (by cases d <;> rfl) rfl ρ
/-- the loop over the letters -/
theorem l_text (d x : D) : ∀ (ds : List D) (y : Sl), y = .un ∨ (∃ e, y = .im e) → ∃ y', forL (nameT 1) (iteS (notF (tstF (clF 1 m_is_letter (consD (varF 1) nilD)))) (retS (cF .none)) nxS) ds [.im d, y] = if ds.all isLet = true then .nx [.im d, y'] else .rt (.im .none) [.im d, y']
  | [], y, _ => ⟨y, by simp [forL]⟩
  | e :: ds, y, h => by
    obtain ⟨y', ih⟩ := l_text d x ds (.im e) (.inr ⟨e, rfl⟩)
    cases hl : isLet e with
    | true =>
      refine ⟨y', ?_⟩
      rcases h with rfl | ⟨z, rfl⟩ <;>
      simp [forL, nameT, pinned, iteS, notF, tstF, clF, consD, nilD, varF, bd, bs, frz, dat, v_is_letter, blO, hl, retS, cF, nxS, ih]
    | false =>
      refine ⟨.im e, ?_⟩
      rcases h with rfl | ⟨z, rfl⟩ <;>
      simp [forL, nameT, pinned, iteS, notF, tstF, clF, consD, nilD, varF, bd, bs, frz, dat, v_is_letter, blO, hl, retS, cF, nxS]
def textOf (d : D) : D := match isSeq d with
  | some ds => if ds.all isLet = true then .tuple ds else .none
  | none => .none
theorem v_text_or_none (d : D) (ρ : Rho) : foE 1 m_text_or_none [d] ρ = .ok (.im (textOf d)) ρ := by
  refine foE_of ?_ rfl ρ
  unfold G_text_or_none textOf
  cases d with
  | list ds =>
    obtain ⟨y', h⟩ := l_text (.list ds) .none ds .un (.inl rfl)
    by_cases ha : ds.all isLet = true
    · rw [if_pos ha] at h
      simp [seqS, iteS, notF, tstF, clF, consD, nilD, varF, bd, bs, frz, dat, v_is_sequence, isSeq, blO, retS, cF, nxS, unS, forS, seqI, itD, h, ha, unF, op1, dr, tupleD, fin, out, retV]
    · rw [if_neg ha] at h
      simp [seqS, iteS, notF, tstF, clF, consD, nilD, varF, bd, bs, frz, dat, v_is_sequence, isSeq, blO, retS, cF, nxS, unS, forS, seqI, itD, h, ha, unF, op1, dr, tupleD, fin, out, retV]
  | tuple ds =>
    obtain ⟨y', h⟩ := l_text (.tuple ds) .none ds .un (.inl rfl)
    by_cases ha : ds.all isLet = true
    · rw [if_pos ha] at h
      simp [seqS, iteS, notF, tstF, clF, consD, nilD, varF, bd, bs, frz, dat, v_is_sequence, isSeq, blO, retS, cF, nxS, unS, forS, seqI, itD, h, ha, unF, op1, dr, tupleD, fin, out, retV]
    · rw [if_neg ha] at h
      simp [seqS, iteS, notF, tstF, clF, consD, nilD, varF, bd, bs, frz, dat, v_is_sequence, isSeq, blO, retS, cF, nxS, unS, forS, seqI, itD, h, ha, unF, op1, dr, tupleD, fin, out, retV]
  | _ => rfl
end K01
/-! ### data that == compares -/
class Ly (α : Type) [DecidableEq α] [Datum α] : Prop where
  lay : ∀ a : α, (Datum.toD a).canLay0 = true
instance : Ly Int := ⟨fun _ => PyData.canLay0.eq_3 _⟩
instance : Ly Bool := ⟨fun _ => PyData.canLay0.eq_2 _⟩
section
variable {α β : Type} [DecidableEq α] [Datum α] [Ly α] [DecidableEq β] [Datum β] [Ly β]
theorem layAll : ∀ xs : List α, PyData.canLayAll0 (xs.map Datum.toD) = true
  | [] => by simp [PyData.canLayAll0]
  | x :: xs => by rw [List.map_cons, PyData.canLayAll0, Ly.lay x, layAll xs]; rfl
instance : Ly (List α) := ⟨fun a => (PyData.canLay0.eq_5 _).trans (layAll a)⟩
instance : Ly (Tup α) := ⟨fun a => (PyData.canLay0.eq_6 _).trans (layAll a.items)⟩
instance : Ly (α × β) := ⟨fun a => (PyData.canLay0.eq_6 _).trans (by simp [PyData.canLayAll0, Ly.lay])⟩
theorem shaped_dt (h : Datum.depth α ≤ 64) (x : α) : SeqAt.shaped (Datum.toD x) = true := by
  unfold SeqAt.shaped
  rw [Bool.and_eq_true]
  exact ⟨Ly.lay x, decide_eq_true (Nat.le_trans (Datum.depth_le x) h)⟩
theorem eqD_dt (h : Datum.depth α ≤ 64) (x y : α) : eqD (Datum.toD x) (Datum.toD y) = some (.im (.bool (decide (x = y)))) := by
  unfold eqD
  rw [if_pos ⟨shaped_dt h x, shaped_dt h y⟩, Datum.eqv]
theorem neD_dt (h : Datum.depth α ≤ 64) (x y : α) : neD (Datum.toD x) (Datum.toD y) = some (.im (.bool (!decide (x = y)))) := by
  unfold neD
  rw [if_pos ⟨shaped_dt h x, shaped_dt h y⟩, Datum.eqv]
end
theorem eqD_int (x y : Int) : eqD (.int x) (.int y) = some (.im (.bool (decide (x = y)))) := eqD_dt (α := Int) (by decide) x y
theorem neD_int (x y : Int) : neD (.int x) (.int y) = some (.im (.bool (!decide (x = y)))) := neD_dt (α := Int) (by decide) x y
abbrev Wd := List (Int × Int)
def pr (p : Int × Int) : D := .tuple [.int p.1, .int p.2]
def wt (w : Wd) : D := .tuple (w.map pr)
def wl (w : Wd) : D := .list (w.map pr)
theorem eqD_ti (x y : List Int) : eqD (ti x) (ti y) = some (.im (.bool (decide (x = y)))) := (eqD_dt (α := Tup Int) (by decide) ⟨x⟩ ⟨y⟩).trans (by simp)
theorem neD_wl (x y : Wd) : neD (wl x) (wl y) = some (.im (.bool (!decide (x = y)))) := neD_dt (α := List (Int × Int)) (by decide) x y
theorem neD_wt (x y : Wd) : neD (wt x) (wt y) = some (.im (.bool (!decide (x = y)))) := (neD_dt (α := Tup (Int × Int)) (by decide) ⟨x⟩ ⟨y⟩).trans (by simp)
theorem eqD_pr (x y : Int × Int) : eqD (pr x) (pr y) = some (.im (.bool (decide (x = y)))) := eqD_dt (α := Int × Int) (by decide) x y
/-! items -/
theorem ixD_t {xs : List D} {i : Nat} {d : D} (h : xs[i]? = some d) : ixD (.tuple xs) (.int (i : Nat)) = some (.im d) := by
  unfold ixD; dsimp only; rw [atI_nat h]; rfl
theorem ixD_l {xs : List D} {i : Nat} {d : D} (h : xs[i]? = some d) : ixD (.list xs) (.int (i : Nat)) = some (.im d) := by
  unfold ixD; dsimp only; rw [atI_nat h]; rfl
theorem ixD_last (xs : List D) (d : D) : ixD (.list (xs ++ [d])) (.int (-1)) = some (.im d) := by
  unfold ixD; dsimp only; rw [atI_last]; rfl
theorem ixD_0 (x : D) (xs : List D) : ixD (.tuple (x :: xs)) (.int 0) = some (.im x) := ixD_t (i := 0) rfl
theorem ixD_1 (x y : D) (xs : List D) : ixD (.tuple (x :: y :: xs)) (.int 1) = some (.im y) := ixD_t (i := 1) rfl
/-! ### words: the stack's top ahead -/
def push (st : Wd) (p : Int × Int) : Wd := match st with
  | [] => [p]
  | q :: r => if q.1 = p.1 ∧ q.2 ≠ p.2 then r else p :: q :: r
def strike (w : Wd) : Wd := (w.foldl push []).reverse
theorem push_len (st : Wd) (p : Int × Int) : (push st p).length ≤ st.length + 1 := by
  unfold push
  split
  · simp
  · split <;> simp <;> omega
theorem run_len : ∀ (w st : Wd), (w.foldl push st).length ≤ st.length + w.length
  | [], st => by simp
  | p :: w, st => by
    have := run_len w (push st p)
    have := push_len st p
    simp only [List.foldl_cons, List.length_cons]
    omega
namespace K01
theorem v_undo_each_other (p q : Int × Int) (ρ : Rho) : foE 2 m_undo_each_other [pr p, pr q] ρ = .ok (.im (.bool (decide (p.1 = q.1 ∧ p.2 ≠ q.2)))) ρ := by
  refine foE_of ?_ rfl ρ
  unfold G_undo_each_other pr
  by_cases h : p.1 = q.1 <;>
  simp [retS, andV, tstF, opF, op2, varF, cF, bd, bs, frz, dr, unS, ixD_0, ixD_1, fin, eqD_int, neD_int, blO, out, retV, h]
abbrev b_struck : Rho → So := iteS (andF (truF (varF 1)) (tstF (clF 2 m_undo_each_other (consD (opF ixD (varF 1) (unF negD (cF (.int 1)))) (consD (varF 2) nilD)))))
  (dropS (mutF popD 1 nilD))
  (dropS (mutF apD 1 (consD (varF 2) nilD)))
theorem t_struck (X : D) (st : Wd) (p : Int × Int) (h : st.length < sizeLine) : b_struck [.im X, .ow false (st.reverse.map pr), .im (pr p)] = .nx [.im X, .ow false ((push st p).reverse.map pr), .im (pr p)] := by
  cases st with
  | nil =>
    have h : 0 < sizeLine := h
    simp [b_struck, iteS, andF, truF, tstF, varF, frz, bd, bs, truO, dr, tru, dropS, mutF, isOw, consD, nilD, dat, mutO, apD, h, push]
  | cons q r =>
    have h : r.length + 1 < sizeLine := h
    by_cases hc : q.1 = p.1 ∧ q.2 ≠ p.2
    · simp [b_struck, iteS, andF, truF, tstF, varF, frz, bd, bs, truO, dr, tru, dropS, mutF, isOw, consD, nilD, dat, mutO, apD, popD, h, push, hc, clF, opF, op2, unF, op1, negD, cF, fin, ixD_last, v_undo_each_other, blO]
    · simp [b_struck, iteS, andF, truF, tstF, varF, frz, bd, bs, truO, dr, tru, dropS, mutF, isOw, consD, nilD, dat, mutO, apD, popD, h, push, hc, clF, opF, op2, unF, op1, negD, cF, fin, ixD_last, v_undo_each_other, blO]
end K01
/-- a slot that a loop's name may have -/
def Fr (y : Sl) : Prop := y = .un ∨ ∃ d, y = .im d
theorem fr_un : Fr .un := .inl rfl
theorem fr_im {d : D} : Fr (.im d) := .inr ⟨d, rfl⟩
/-! comprehensions whose element is a function of the item -/
theorem lcL_map {T : Tg} {E : Rho → Ou Rs} {vs : List Nat} {ρ : Rho} {f : D → D} : ∀ (ds acc : List D), (∀ d ∈ ds, ∃ ρ1 ρ2, T d ρ = some ρ1 ∧ bd (frz (E ρ1)) dat = .ok (f d) ρ2 ∧ plainAt ρ2 vs = true ∧ wipeR ρ2 vs = ρ) → acc.length + ds.length ≤ sizeLine →
    lcL T yesF E vs ds acc ρ = .ok (acc ++ ds.map f) ρ
  | [], acc, _, _ => by simp [lcL]
  | d :: ds, acc, h, hl => by
    obtain ⟨ρ1, ρ2, e1, e2, e3, e4⟩ := h d List.mem_cons_self
    rw [List.length_cons] at hl
    have ih := lcL_map (T := T) (E := E) (vs := vs) (ρ := ρ) (f := f) ds (acc ++ [f d]) (fun c hc => h c (List.mem_cons_of_mem _ hc)) (by rw [List.length_append]; simp; omega)
    unfold lcL
    rw [e1]
    simp only [yesF, bdn, if_true, e2, e3, and_true]
    rw [if_pos (by omega), e4, ih]
    simp
namespace K01
theorem l_struck (X : D) : ∀ (w st : Wd) (y : Sl), Fr y → st.length + w.length ≤ sizeLine → ∃ y', Fr y' ∧ forL (nameT 2) b_struck (w.map pr) [.im X, .ow false (st.reverse.map pr), y] = .nx [.im X, .ow false ((w.foldl push st).reverse.map pr), y']
  | [], st, y, hy, _ => ⟨y, hy, by simp [forL]⟩
  | p :: w, st, y, hy, hl => by
    rw [List.length_cons] at hl
    have := push_len st p
    obtain ⟨y', hy', ih⟩ := l_struck X w (push st p) (.im (pr p)) fr_im (by omega)
    refine ⟨y', hy', ?_⟩
    have e := t_struck X st p (by omega)
    rw [List.map_cons, List.foldl_cons, ← ih]
    rcases hy with rfl | ⟨d, rfl⟩ <;>
    simp only [forL, nameT, pinned, List.getElem?_cons_succ, List.getElem?_cons_zero, List.set_cons_succ, List.set_cons_zero, e, Bool.false_eq_true, if_false]
theorem v_struck (w : Wd) (h : w.length ≤ sizeLine) (ρ : Rho) : foE 1 m_struck [wl w] ρ = .ok (.im (wt (strike w))) ρ := by
  refine foE_of ?_ rfl ρ
  unfold G_struck wl wt strike
  obtain ⟨y', _, e⟩ := l_struck (.list (w.map pr)) w [] .un fr_un (by simpa using h)
  have e : forL (nameT 2) b_struck (w.map pr) [.im (.list (w.map pr)), .ow false [], .un] = _ := e
  simp [seqS, asgS, lstF, nilD, bs, bd, lstD, setN, pinned, unS, forS, seqI, varF, frz, dat, itD, e, retS, unF, op1, dr, tupleD, fin, out, retV]
theorem v_undone (w : Wd) (h : w.length ≤ sizeLine) (ρ : Rho) : foE 1 m_undone [wt w] ρ = .ok (.im (wt (w.reverse.map fun p => (p.1, -p.2)))) ρ := by
  refine foE_of ?_ rfl ρ
  unfold G_undone wt
  have e := lcL_map (T := tupU 2 (consT (nameT 1) (consT (nameT 2) nilT))) (E := tupF (consD (varF 1) (consD (unF negD (varF 2)) nilD))) (vs := [1, 2]) (ρ := [.im (.tuple (w.map pr)), .un, .un])
    (f := fun d => match d with | .tuple [.int a, .int b] => .tuple [.int a, .int (-b)] | d => d) (w.map pr).reverse [] (fun d hd => by
      obtain ⟨p, hp, rfl⟩ := List.mem_map.mp (List.mem_reverse.mp hd)
      refine ⟨[.im (.tuple (w.map pr)), .im (.int p.1), .im (.int p.2)], [.im (.tuple (w.map pr)), .im (.int p.1), .im (.int p.2)], ?_, ?_, ?_, ?_⟩
      · simp [tupU, pr, consT, nameT, nilT, pinned]
      · simp [tupF, consD, varF, bd, frz, dat, nilD, unF, op1, dr, negD, fin, tupD, pr, sizeLine_eq]
      · simp [plainAt]
      · simp [wipeR]) (by simpa using h)
  simp [retS, unF, lcF, seqI, stpF, varF, parO, negD, cF, bd, bs, frz, op1, dr, fin, intO, stpO, stpD, dat, itD, plainAt, unS, wipeR, e, unwipe, tupleD, out, retV]
  intro a b _
  simp [pr]
theorem v_word_of (xs : List Int) (h : xs.length ≤ sizeLine) (ρ : Rho) : foE 1 m_word_of [ti xs] ρ = .ok (.im (wt (xs.map fun x => (x, 1)))) ρ := by
  refine foE_of ?_ rfl ρ
  unfold G_word_of wt ti
  have e := lcL_map (T := nameT 1) (E := tupF (consD (varF 1) (consD (cF (.int 1)) nilD))) (vs := [1]) (ρ := [.im (.tuple (xs.map .int)), .un])
    (f := fun d => .tuple [d, .int 1]) (xs.map .int) [] (fun d hd => by
      refine ⟨[.im (.tuple (xs.map .int)), .im d], [.im (.tuple (xs.map .int)), .im d], ?_, ?_, ?_, ?_⟩
      · simp [nameT, pinned]
      · simp [tupF, consD, varF, bd, frz, dat, nilD, cF, tupD, sizeLine_eq]
      · simp [plainAt]
      · simp [wipeR]) (by simpa using h)
  simp [retS, unF, lcF, seqI, varF, bd, bs, frz, dr, dat, itD, plainAt, unS, wipeR, e, unwipe, op1, tupleD, fin, out, retV]
  intro a _
  rfl
end K01
/-! ### numbers that a range gives -/
def idx (s n : Nat) : List D := (List.range' s n).map fun (i : Nat) => PyData.int (i : Int)
theorem rng_idx (n : Nat) : rngD 0 (n : Int) = idx 0 n := by
  unfold rngD idx
  rw [show ((n : Int) - 0).toNat = n by omega, List.range_eq_range']
  refine List.map_congr_left fun i _ => ?_
  rw [Int.zero_add]
theorem idx_succ (s n : Nat) : idx s (n + 1) = PyData.int (s : Int) :: idx (s + 1) n := by
  unfold idx
  rw [List.range'_succ, List.map_cons]
theorem idx_zero (s : Nat) : idx s 0 = [] := rfl
theorem rng1_nat {n : Nat} (h : n < 2 ^ 62) (ρ : Rho) : rng1O (.int (n : Int)) ρ = .ok (idx 0 n) ρ := by
  unfold rng1O
  dsimp only
  rw [if_pos (by omega), rng_idx]
def stepL (o : So) (k : Rho → So) : So := match o with
  | .nx ρ => k ρ
  | .ct ρ => k ρ
  | .bk ρ => .nx ρ
  | o => o
theorem forL_cons {T : Tg} {B : Rho → So} {d : D} {ds : List D} {ρ ρ1 : Rho} (h : T d ρ = some ρ1) : forL T B (d :: ds) ρ = stepL (B ρ1) (forL T B ds) := by
  rw [forL, h]
  show (match B ρ1 with | .nx ρ2 => forL T B ds ρ2 | .ct ρ2 => forL T B ds ρ2 | .bk ρ2 => .nx ρ2 | o => o) = _
  unfold stepL
  cases e : B ρ1 <;> simp only
theorem seq_nx {F G : Rho → So} {ρ ρ' : Rho} (h : F ρ = .nx ρ') : seqS F G ρ = G ρ' := by unfold seqS; rw [h]
theorem seq_rt {F G : Rho → So} {ρ ρ' : Rho} {r : Rs} (h : F ρ = .rt r ρ') : seqS F G ρ = .rt r ρ' := by unfold seqS; rw [h]
theorem seq_ex {F G : Rho → So} {ρ ρ' : Rho} {t : Nat} {d : D} (h : F ρ = .ex t d ρ') : seqS F G ρ = .ex t d ρ' := by unfold seqS; rw [h]
theorem for_of {I : Rho → Ou (List D)} {T : Tg} {B : Rho → So} {ρ ρ' : Rho} {ds : List D} (h : I ρ = .ok ds ρ') : forS I T B ρ = forL T B ds ρ' := by unfold forS; rw [h]; rfl
theorem bd_ok {α β : Type} (a : α) (ρ : Rho) (f : α → Rho → Ou β) : bd (.ok a ρ) f = f a ρ := rfl
theorem bs_ok {α : Type} (a : α) (ρ : Rho) (f : α → Rho → So) : bs (.ok a ρ) f = f a ρ := rfl
theorem rng1_of {F : Rho → Ou Rs} {ρ ρ' : Rho} {n : Nat} (h : bd (frz (F ρ)) dat = .ok (.int (n : Int)) ρ') (hn : n < 2 ^ 62) : rng1I F ρ = .ok (idx 0 n) ρ' := by
  unfold rng1I
  rw [h, bd_ok]
  exact rng1_nat hn ρ'
/-- how long two texts are alike in front -/
def lcp : List Int → List Int → Nat
  | x :: xs, y :: ys => if x = y then lcp xs ys + 1 else 0
  | _, _ => 0
theorem lcp_le : ∀ a b : List Int, lcp a b ≤ a.length ∧ lcp a b ≤ b.length
  | [], _ => by simp [lcp]
  | _ :: _, [] => by simp [lcp]
  | x :: xs, y :: ys => by
    have := lcp_le xs ys
    unfold lcp
    split <;> simp <;> omega
theorem foE_ex {n k : Nat} {G : Rho → So} {ds : List D} {tag : Nat} {d : D} {ρ' : Rho} (h : G (ds.map .im ++ unS k) = .ex tag d ρ') (hn : ds.length = n) (ρ : Rho) : foE n (mF n k G) ds ρ = .ex tag d ρ := by
  unfold foE mF
  rw [if_pos hn, h]
  rfl
theorem ti_len (a : List Int) : (a.map PyData.int).length = a.length := List.length_map _
namespace K01
abbrev b_front : Rho → So := iteS (tstF (opF neD (opF ixD (varF 0) (varF 3)) (opF ixD (varF 1) (varF 3)))) (retS (varF 3)) nxS
theorem t_front {a b : List Int} {s : Nat} {x y : Int} (ha : a[s]? = some x) (hb : b[s]? = some y) (M : Sl) : b_front [.im (ti a), .im (ti b), M, .im (.int (s : Int))] = if x = y then .nx [.im (ti a), .im (ti b), M, .im (.int (s : Int))] else .rt (.im (.int (s : Int))) [.im (ti a), .im (ti b), M, .im (.int (s : Int))] := by
  have e1 : ixD (ti a) (.int (s : Int)) = some (.im (.int x)) := ixD_t (by rw [List.getElem?_map, ha]; rfl)
  have e2 : ixD (ti b) (.int (s : Int)) = some (.im (.int y)) := ixD_t (by rw [List.getElem?_map, hb]; rfl)
  by_cases h : x = y <;>
  simp [b_front, iteS, tstF, opF, op2, varF, bd, bs, frz, dr, e1, e2, fin, neD_int, blO, retS, nxS, h]
theorem l_front (a b : List Int) (M : Sl) : ∀ (n s : Nat) (y : Sl), Fr y → s + n ≤ a.length → s + n ≤ b.length → ∃ y', Fr y' ∧ forL (nameT 3) b_front (idx s n) [.im (ti a), .im (ti b), M, y] =
    if lcp (a.drop s) (b.drop s) < n then .rt (.im (.int ((s + lcp (a.drop s) (b.drop s) : Nat) : Int))) [.im (ti a), .im (ti b), M, y'] else .nx [.im (ti a), .im (ti b), M, y']
  | 0, s, y, hy, _, _ => ⟨y, hy, by simp [idx_zero, forL]⟩
  | n + 1, s, y, hy, h1, h2 => by
    obtain ⟨y', hy', ih⟩ := l_front a b M n (s + 1) (.im (.int (s : Int))) fr_im (by omega) (by omega)
    have g1 : a[s]? = some (a[s]'(by omega)) := List.getElem?_eq_getElem _
    have g2 : b[s]? = some (b[s]'(by omega)) := List.getElem?_eq_getElem _
    have e := t_front g1 g2 M
    have d1 : a.drop s = a[s]'(by omega) :: a.drop (s + 1) := List.drop_eq_getElem_cons (by omega)
    have d2 : b.drop s = b[s]'(by omega) :: b.drop (s + 1) := List.drop_eq_getElem_cons (by omega)
    rw [idx_succ, d1, d2, lcp]
    have st : forL (nameT 3) b_front (PyData.int (s : Int) :: idx (s + 1) n) [.im (ti a), .im (ti b), M, y] = _ := forL_cons (ρ1 := [.im (ti a), .im (ti b), M, .im (.int (s : Int))]) (by rcases hy with rfl | ⟨d, rfl⟩ <;> rfl)
    rw [st, e]
    by_cases h : a[s]'(by omega) = b[s]'(by omega)
    · refine ⟨y', hy', ?_⟩
      rw [if_pos h, if_pos h]
      show forL _ _ _ _ = _
      rw [ih]
      simp only [Nat.add_lt_add_iff_right]
      split
      · rw [show s + 1 + lcp (a.drop (s + 1)) (b.drop (s + 1)) = s + (lcp (a.drop (s + 1)) (b.drop (s + 1)) + 1) by omega]
      · rfl
    · refine ⟨.im (.int (s : Int)), fr_im, ?_⟩
      rw [if_neg h, if_neg h]
      rw [if_pos (by omega)]
      rfl
end K01
theorem ti_ne (xs : List Int) : isNon (ti xs) = false := rfl
theorem lenD_ti (x : List Int) : lenD [ti x] = some (.im (.int (x.length : Nat))) := by simp [lenD, ti]
theorem stpD_ti (x : List Int) : stpD (ti x) (some (-1)) = some (.im (ti x.reverse)) := by simp [stpD, ti, List.map_reverse]
def lcs (a b : List Int) : Nat := lcp a.reverse b.reverse
theorem lcs_le (a b : List Int) : lcs a b ≤ a.length ∧ lcs a b ≤ b.length := by
  have := lcp_le a.reverse b.reverse
  unfold lcs
  simpa using this
theorem cut_to {xs : List D} {n : Nat} (h : n ≤ xs.length) : cutD xs none (some (n : Int)) = xs.take n := by
  unfold cutD HT.sIx
  dsimp only
  rw [if_neg (by omega), show min (n : Int).toNat xs.length = n by omega]
  simp
theorem cut_from {xs : List D} {n : Nat} (h : n ≤ xs.length) : cutD xs (some (n : Int)) none = xs.drop n := by
  unfold cutD HT.sIx
  dsimp only
  rw [if_neg (by omega), show min (n : Int).toNat xs.length = n by omega, List.take_of_length_le (by rw [List.length_drop]; omega)]
theorem sl_to {xs : List Int} {n : Nat} (h : n ≤ xs.length) : slD (ti xs) none (some (n : Int)) = some (.im (ti (xs.take n))) := by
  unfold slD ti
  dsimp only
  rw [cut_to (by rw [List.length_map]; exact h), List.map_take]
theorem sl_from {xs : List Int} {n : Nat} (h : n ≤ xs.length) : slD (ti xs) (some (n : Int)) none = some (.im (ti (xs.drop n))) := by
  unfold slD ti
  dsimp only
  rw [cut_from (by rw [List.length_map]; exact h), List.map_drop]
theorem add_ti {xs ys : List Int} (h : xs.length + ys.length ≤ sizeLine) : addD (ti xs) (ti ys) = some (.im (ti (xs ++ ys))) := by
  unfold addD ti
  dsimp only
  rw [if_pos (by rw [List.length_map, List.length_map]; exact h), List.map_append]
namespace K01
/-- where the cuts lie -/
def least (b m : List Int) : Nat := b.length - lcs b m
def grt (b y : List Int) : Nat := lcp b y
/-- what the merge is -/
def mg (b m y : List Int) : D := if grt b y < least b m then .none else ti (m.take (m.length - lcs b m) ++ y.drop (least b m))
theorem grt_le (b y : List Int) : grt b y ≤ b.length ∧ grt b y ≤ y.length := lcp_le b y
end K01
def Lt (xs : List Int) : Prop := ∀ x ∈ xs, 0 ≤ x ∧ x < 100
namespace K01
/-- a value that is a text -/
def isT (d : D) (xs : List Int) : Prop := textOf d = ti xs
theorem all_let {xs : List Int} (h : Lt xs) : (xs.map PyData.int).all isLet = true := by
  rw [List.all_eq_true]
  intro d hd
  obtain ⟨x, hx, rfl⟩ := List.mem_map.mp hd
  have := h x hx
  simp [isLet, this]
theorem isT_ti {xs : List Int} (h : Lt xs) : isT (ti xs) xs := by
  unfold isT textOf ti isSeq
  dsimp only
  rw [if_pos (all_let h)]
theorem isT_li {xs : List Int} (h : Lt xs) : isT (li xs) xs := by
  unfold isT textOf li isSeq ti
  dsimp only
  rw [if_pos (all_let h)]
theorem v_need_text {d : D} {xs : List Int} (h : isT d xs) (k : D) (ρ : Rho) : foE 2 m_need_text [d, k] ρ = .ok (.im (ti xs)) ρ := by
  refine foE_of ?_ rfl ρ
  unfold isT at h
  unfold G_need_text
  simp [seqS, asgS, clF, consD, varF, nilD, bd, bs, frz, dat, unS, v_text_or_none, h, setN, pinned, iteS, tstF, unF, op1, dr, isnD, fin, blO, ti_ne, nxS, retS, out, retV]
theorem v_need_bad {d : D} (h : textOf d = .none) (k : D) (ρ : Rho) : foE 2 m_need_text [d, k] ρ = .ex 0 k ρ := by
  refine foE_ex (ρ' := [.im d, .im k, .im .none]) ?_ rfl ρ
  unfold G_need_text
  simp [seqS, asgS, clF, consD, varF, nilD, bd, bs, frz, dat, unS, v_text_or_none, h, setN, pinned, iteS, tstF, unF, op1, dr, isnD, fin, blO, isNon, rseS, rseO]
/-- the lines that both claim -/
def cl (b m y : List Int) : D := if least b m ≤ grt b y then .none else .tuple [.int (grt b y : Nat), .int (least b m : Nat)]
/-- letters as pairs: once each, and the undone ones backwards -/
def pl (xs : List Int) : Wd := xs.map fun x => (x, 1)
def mi (xs : List Int) : Wd := xs.reverse.map fun x => (x, -1)
theorem mi_of (xs : List Int) : (pl xs).reverse.map (fun p => (p.1, -p.2)) = mi xs := by simp [pl, mi, List.map_reverse]
theorem v_pw (xs : List Int) (h : xs.length ≤ sizeLine) (ρ : Rho) : foE 1 m_word_of [ti xs] ρ = .ok (.im (wt (pl xs))) ρ := v_word_of xs h ρ
theorem v_pu (xs : List Int) (h : xs.length ≤ sizeLine) (ρ : Rho) : foE 1 m_undone [wt (pl xs)] ρ = .ok (.im (wt (mi xs))) ρ := by
  rw [v_undone _ (by simpa [pl] using h), mi_of]
abbrev b_prod : Rho → So := seqS (asgS 4 (clF 1 m_word_of (consD (varF 3) nilD)))
  (dropS (mutF xtD 1 (consD (ifF (truF (opF modD (varF 2) (cF (.int 2)))) (clF 1 m_undone (consD (varF 4) nilD)) (varF 4)) nilD)))
def turn (k : Nat) (xs : List Int) : Wd := if k % 2 = 1 then mi xs else pl xs
theorem t_prod (X : D) (k : Nat) (hk : k = 0 ∨ k = 1 ∨ k = 2) (w : Wd) (xs : List Int) (h : w.length + xs.length ≤ sizeLine) (y : Sl) (hy : Fr y) :
    b_prod [.im X, .ow false (w.map pr), .im (.int (k : Int)), .im (ti xs), y] = .nx [.im X, .ow false ((w ++ turn k xs).map pr), .im (.int (k : Int)), .im (ti xs), .im (wt (pl xs))] := by
  have h1 : xs.length ≤ sizeLine := by omega
  have x1 : xtD (w.map pr) [wt (pl xs)] = some (.none, (w ++ pl xs).map pr) := by
    simp [xtD, wt, pl, h]
  have x2 : xtD (w.map pr) [wt (mi xs)] = some (.none, (w ++ mi xs).map pr) := by
    simp [xtD, wt, mi, h]
  rcases hk with rfl | rfl | rfl <;> rcases hy with rfl | ⟨d, rfl⟩ <;>
  simp [b_prod, seqS, asgS, clF, consD, varF, nilD, bd, bs, frz, dat, v_pw, v_pu, h1, setN, pinned, dropS, mutF, isOw, ifF, truF, opF, op2, cF, dr, modD, intD, fin, truO, tru, mutO, x1, x2, turn]
end K01
/-- signs -/
def Sgn (st : Wd) : Prop := ∀ p ∈ st, p.2 = 1 ∨ p.2 = -1
theorem push_sgn {st : Wd} {p : Int × Int} (h : Sgn st) (hp : p.2 = 1 ∨ p.2 = -1) : Sgn (push st p) := by
  unfold push
  split
  · intro q hq; simp at hq; subst hq; exact hp
  · rename_i q r
    split
    · exact fun z hz => h z (List.mem_cons_of_mem _ hz)
    · intro z hz
      rcases List.mem_cons.mp hz with rfl | hz
      · exact hp
      · exact h z hz
theorem run_sgn : ∀ (w st : Wd), Sgn st → Sgn w → Sgn (w.foldl push st)
  | [], _, h, _ => h
  | p :: w, st, h, hw => run_sgn w (push st p) (push_sgn h (hw p List.mem_cons_self)) fun q hq => hw q (List.mem_cons_of_mem _ hq)
theorem foI_of {n k : Nat} {G : Rho → So} {xs ys : List D} {ds : List D} {d : D} {r : Rho} (h : G ((.ow true xs :: ds.map .im) ++ unS k) = .rt (.im d) (.ow true ys :: r)) (hn : ds.length + 1 = n) {ρ : Rho} {i : Nat} {b : Bool} (hi : ρ[i]? = some (.ow b xs)) :
    foI n (mF n k G) i ds ρ = .ok (.im d) (ρ.set i (.ow b ys)) := by
  subst hn
  unfold foI mF
  rw [hi]
  dsimp only
  rw [if_pos rfl, h]
  unfold ofSo retV outA
  dsimp only
  rw [List.range_succ_eq_map]
  rfl
theorem foI_fr {n k : Nat} {G : Rho → So} {xs ys : List D} {ds : List D} {d : List D} {r : Rho} (h : G ((.ow true xs :: ds.map .im) ++ unS k) = .rt (.fr d) (.ow true ys :: r)) (hn : ds.length + 1 = n) {ρ : Rho} {i : Nat} {b : Bool} (hi : ρ[i]? = some (.ow b xs)) :
    foI n (mF n k G) i ds ρ = .ok (.fr d) (ρ.set i (.ow b ys)) := by
  subst hn
  unfold foI mF
  rw [hi]
  dsimp only
  rw [if_pos rfl, h]
  unfold ofSo retV outA
  dsimp only
  rw [List.range_succ_eq_map]
  rfl
namespace K01
theorem pl_sgn (xs : List Int) : Sgn (pl xs) := by
  intro p hp; simp [pl] at hp; obtain ⟨_, _, rfl⟩ := hp; exact .inl rfl
theorem mi_sgn (xs : List Int) : Sgn (mi xs) := by
  intro p hp; simp [mi] at hp; obtain ⟨_, _, rfl⟩ := hp; exact .inr rfl
/-! ### the law's own words -/
abbrev b_lw : Rho → So := iteS (andF (tstF (opF neD (varF 1) (lstF nilD))) (tstF (opF eqD (opF ixD (varF 1) (unF negD (cF (.int 1)))) (tupF (consD (varF 5) (consD (opF subD (cF (.int 0)) (varF 4)) nilD))))))
  (dropS (mutF popD 1 nilD))
  (dropS (mutF apD 1 (consD (tupF (consD (varF 5) (consD (varF 4) nilD))) nilD)))
theorem t_lw (X K Z : Sl) (st : Wd) (x s : Int) (hs : s = 1 ∨ s = -1) (g : Sgn st) (h : st.length < sizeLine) : b_lw [X, .ow false (st.reverse.map pr), K, Z, .im (.int s), .im (.int x)] = .nx [X, .ow false ((push st (x, s)).reverse.map pr), K, Z, .im (.int s), .im (.int x)] := by
  cases st with
  | nil =>
    have h : 0 < sizeLine := h
    have e : neD (.list []) (.list []) = some (.im (.bool false)) := neD_wl [] []
    simp [b_lw, iteS, andF, tstF, opF, op2, varF, lstF, nilD, bd, bs, frz, dr, lstD, e, fin, blO, dropS, mutF, isOw, consD, tupF, dat, tupD, sizeLine_eq, mutO, apD, push, pr]
  | cons q r =>
    have h : r.length + 1 < sizeLine := h
    have e : neD (.list (r.reverse.map pr ++ [pr q])) (.list []) = some (.im (.bool true)) := by
      have := neD_wl ((q :: r).reverse) []
      simp [wl] at this
      simpa using this
    have e2 : eqD (pr q) (.tuple [.int x, .int (-s)]) = some (.im (.bool (decide (q = (x, -s))))) := eqD_pr q (x, -s)
    have hq := g q List.mem_cons_self
    have hc : (q.1 = x ∧ q.2 ≠ s) ↔ q = (x, -s) := by
      obtain ⟨q1, q2⟩ := q
      simp only [Prod.mk.injEq] at hq ⊢
      constructor
      · rintro ⟨rfl, h2⟩; refine ⟨rfl, ?_⟩; omega
      · rintro ⟨rfl, h2⟩; refine ⟨rfl, ?_⟩; omega
    have C : andF (tstF (opF neD (varF 1) (lstF nilD))) (tstF (opF eqD (opF ixD (varF 1) (unF negD (cF (.int 1)))) (tupF (consD (varF 5) (consD (opF subD (cF (.int 0)) (varF 4)) nilD))))) [X, .ow false (r.reverse.map pr ++ [pr q]), K, Z, .im (.int s), .im (.int x)] = .ok (decide (q = (x, -s))) [X, .ow false (r.reverse.map pr ++ [pr q]), K, Z, .im (.int s), .im (.int x)] := by
      simp only [andF, tstF, opF, op2, varF, lstF, nilD, bd_ok, bd, frz, dr, lstD, e, fin, blO, unF, op1, negD, cF, ixD_last, consD, dat, subD, intD, tupF, tupD, e2, Int.zero_sub, List.getElem?_cons_zero, List.getElem?_cons_succ, if_true, List.length_nil, Nat.zero_le, List.length_cons, sizeLine_eq]
      simp [e2]
    by_cases hd : q = (x, -s)
    · have hp : push (q :: r) (x, s) = r := if_pos (hc.mpr hd)
      rw [hp]
      rw [List.reverse_cons, List.map_append, List.map_cons, List.map_nil]
      unfold b_lw iteS
      rw [C, bs_ok, decide_eq_true hd, if_pos rfl]
      simp [dropS, mutF, isOw, nilD, bd_ok, mutO, popD, bs_ok]
    · have hp : push (q :: r) (x, s) = (x, s) :: q :: r := if_neg fun z => hd (hc.mp z)
      rw [hp]
      rw [List.reverse_cons, List.map_append, List.map_cons, List.map_nil]
      unfold b_lw iteS
      rw [C, bs_ok, decide_eq_false hd, if_neg Bool.false_ne_true]
      simp [dropS, mutF, isOw, consD, tupF, nilD, varF, bd, bs, frz, dat, tupD, sizeLine_eq, mutO, apD, pr]
      rw [sizeLine_eq] at h
      simp [h]
abbrev b_lo : Rho → So := seqS (asgS 4 (opF subD (cF (.int 1)) (opF mulD (cF (.int 2)) (opF modD (varF 2) (cF (.int 2))))))
  (forS (seqI (stpF (varF 3) (parO (varF 4)))) (nameT 5) b_lw)
theorem turn_sgn (k : Nat) (xs : List Int) : Sgn (turn k xs) := by
  unfold turn; split
  · exact mi_sgn xs
  · exact pl_sgn xs
end K01
theorem log2_le {n k : Nat} (h : n < 2 ^ k) (hk : 0 < k) : n.log2 < k := by
  by_cases h0 : n = 0
  · subst h0; rw [Nat.log2_zero]; exact hk
  · exact (Nat.log2_lt h0).mpr h
theorem small_mul {i j : Int} (hi : i.natAbs < 2 ^ 70) (hj : j.natAbs < 2 ^ 70) : mulD (.int i) (.int j) = some (.im (.int (i * j))) := by
  have a := log2_le hi (by decide)
  have b := log2_le hj (by decide)
  unfold mulD intD
  dsimp only
  rw [if_pos (decide_eq_true (by omega))]
theorem mod_ok {i j : Int} (hj : 0 < j) : modD (.int i) (.int j) = some (.im (.int (i % j))) := by
  unfold modD intD
  dsimp only
  rw [if_pos (decide_eq_true hj)]
theorem fdv_ok {i j : Int} (hj : 0 < j) (h : j.natAbs < 2 ^ 70) : fdvD (.int i) (.int j) = some (.im (.int (i / j))) := by
  have b := log2_le h (by decide)
  unfold fdvD intD
  dsimp only
  rw [if_pos (decide_eq_true ⟨hj, by omega⟩)]
/-- the box: what is left of the cell, the state, how often it was drawn from -/
structure Bx (n : Nat) (c : Int × Int × Int) : Prop where
  a0 : 0 ≤ c.1
  b0 : 0 ≤ c.2.1
  b2 : c.2.1 < 2147483648
  c0 : 0 ≤ c.2.2
  c2 : c.2.2 ≤ n
def bx (c : Int × Int × Int) : List D := [.int c.1, .int c.2.1, .int c.2.2]
theorem Bx.mono {n m : Nat} {c : Int × Int × Int} (h : Bx n c) (k : n ≤ m) : Bx m c := ⟨h.a0, h.b0, h.b2, h.c0, by have := h.c2; omega⟩
namespace K01
/-- one draw -/
def raw (c : Int × Int × Int) : Int := ((c.2.1 + 90007 * (c.2.2 + 1)) * 58217 + 43) % 2147483563
def nxt (c : Int × Int × Int) : Int := (raw c * 40289 + 27367) % 2147483629 + 1
def dig (c : Int × Int × Int) (many : Int) : Int := if 0 < c.1 then c.1 % many else ((raw c * 2147483647 + nxt c) / 8191) % many
def box (c : Int × Int × Int) (many : Int) : Int × Int × Int := if 0 < c.1 then (c.1 / many, c.2.1, c.2.2) else (c.1, nxt c, c.2.2 + 1)
theorem raw_b (c : Int × Int × Int) : 0 ≤ raw c ∧ raw c < 2147483563 := ⟨Int.emod_nonneg _ (by decide), Int.emod_lt_of_pos _ (by decide)⟩
theorem nxt_b (c : Int × Int × Int) : 0 ≤ nxt c ∧ nxt c < 2147483648 := by
  have h1 : 0 ≤ (raw c * 40289 + 27367) % 2147483629 := Int.emod_nonneg _ (by decide)
  have h2 : (raw c * 40289 + 27367) % 2147483629 < 2147483629 := Int.emod_lt_of_pos _ (by decide)
  unfold nxt
  omega
theorem box_ok {n : Nat} {c : Int × Int × Int} (h : Bx n c) {many : Int} (hm : 0 < many) : Bx (n + 1) (box c many) := by
  have hn := nxt_b c
  obtain ⟨a, b, b2, c1, c2⟩ := h
  unfold box
  split
  · exact ⟨Int.ediv_nonneg a (Int.le_of_lt hm), b, b2, c1, by show c.2.2 ≤ _; omega⟩
  · exact ⟨a, hn.1, hn.2, by show 0 ≤ c.2.2 + 1; omega, by show c.2.2 + 1 ≤ _; omega⟩
theorem dig_b (c : Int × Int × Int) {many : Int} (hm : 0 < many) : 0 ≤ dig c many ∧ dig c many < many := by
  unfold dig
  split <;> exact ⟨Int.emod_nonneg _ (by omega), Int.emod_lt_of_pos _ hm⟩
theorem ix0 (x y z : D) : ixD (.list [x, y, z]) (.int 0) = some (.im x) := ixD_l (i := 0) rfl
theorem ix1 (x y z : D) : ixD (.list [x, y, z]) (.int 1) = some (.im y) := ixD_l (i := 1) rfl
theorem ix2 (x y z : D) : ixD (.list [x, y, z]) (.int 2) = some (.im z) := ixD_l (i := 2) rfl
theorem set0 (x y z d : D) (b : Bool) (r : Rho) : setO 0 d (.int 0) (.ow b [x, y, z] :: r) = .nx (.ow b [d, y, z] :: r) := rfl
theorem set1 (x y z d : D) (b : Bool) (r : Rho) : setO 0 d (.int 1) (.ow b [x, y, z] :: r) = .nx (.ow b [x, d, z] :: r) := rfl
theorem set2 (x y z d : D) (b : Bool) (r : Rho) : setO 0 d (.int 2) (.ow b [x, y, z] :: r) = .nx (.ow b [x, y, d] :: r) := rfl
theorem v_take {n : Nat} {c : Int × Int × Int} (h : Bx n c) (hn : n < 1000) {many : Int} (hm : 0 < many) (hm2 : many < 1000000) {ρ : Rho} {i : Nat} {b : Bool} (hi : ρ[i]? = some (.ow b (bx c))) :
    foI 2 m_law_take i [.int many] ρ = .ok (.im (.int (dig c many))) (ρ.set i (.ow b (bx (box c many)))) := by
  obtain ⟨c0, c1, c2⟩ := c
  obtain ⟨ha, hb, hb2, hc, hc2⟩ := h
  dsimp only at ha hb hb2 hc hc2
  by_cases h0 : 0 < c0
  · refine foI_of (r := [.im (.int many), .im (.int (c0 % many)), .un]) ?_ rfl hi
    have e1 := @fdv_ok c0 many hm (by omega)
    have e2 := @mod_ok c0 many hm
    simp only [bx, dig, box, h0, if_true]
    unfold G_law_take
    simp [seqS, iteS, tstF, opF, op2, varF, cF, bd_ok, bd, bs, frz, dr, unS, ix0, fin, gtD, intD, blO, h0, asgS, callF, consF, nilF, call1, drs, intOfD, e2, setN, pinned, setS, e1, dat, isOw, set0, retS]
  · have hraw := raw_b (c0, c1, c2)
    have hnx := nxt_b (c0, c1, c2)
    refine foI_of (r := [.im (.int many), .un, .im (.int (raw (c0, c1, c2)))]) ?_ rfl hi
    simp only [bx, dig, box, h0, if_false]
    have m1 := @small_mul 90007 (c2 + 1) (by decide) (by omega)
    have m2 := @small_mul (c1 + 90007 * (c2 + 1)) 58217 (by omega) (by decide)
    have m3 := @mod_ok ((c1 + 90007 * (c2 + 1)) * 58217 + 43) 2147483563 (by decide)
    have m3 : modD (.int ((c1 + 90007 * (c2 + 1)) * 58217 + 43)) (.int 2147483563) = some (.im (.int (raw (c0, c1, c2)))) := m3
    have m4 := @small_mul (raw (c0, c1, c2)) 40289 (by omega) (by decide)
    have m5 := @mod_ok (raw (c0, c1, c2) * 40289 + 27367) 2147483629 (by decide)
    have m6 := @small_mul (raw (c0, c1, c2)) 2147483647 (by omega) (by decide)
    have m7 := @fdv_ok (raw (c0, c1, c2) * 2147483647 + nxt (c0, c1, c2)) 8191 (by decide) (by decide)
    have m8 := @mod_ok ((raw (c0, c1, c2) * 2147483647 + nxt (c0, c1, c2)) / 8191) many hm
    have e5 : (raw (c0, c1, c2) * 40289 + 27367) % 2147483629 + 1 = nxt (c0, c1, c2) := rfl
    unfold G_law_take
    simp only [seqS, iteS, tstF, opF, op2, varF, cF, bd_ok, frz, dr, unS, List.map_cons, List.map_nil, List.cons_append, List.nil_append, List.replicate, List.getElem?_cons_zero, List.getElem?_cons_succ, ix0, ix1, ix2, fin, gtD, intD, if_true, blO, bs_ok, h0, decide_false, Bool.false_eq_true, if_false, nxS, setS, addD, dat, isOw, set2, set1, set0, asgS, callF, consF, nilF, call1, drs, intOfD, m1, m2, m3, m4, m5, m6, m7, m8, e5, setN, pinned, List.set_cons_succ, List.set_cons_zero, retS]
end K01
/-- a drawn text -/
structure Gt (n : Nat) (xs : List Int) : Prop where
  len : xs.length ≤ n
  let_ : ∀ x ∈ xs, x = 3 ∨ x = 47 ∨ x = 99
theorem Gt.app {n m : Nat} {xs ys : List Int} (a : Gt n xs) (b : Gt m ys) : Gt (n + m) (xs ++ ys) := by
  refine ⟨by have := a.len; have := b.len; rw [List.length_append]; omega, fun x hx => ?_⟩
  rcases List.mem_append.mp hx with h | h
  · exact a.let_ x h
  · exact b.let_ x h
theorem Gt.lt {n : Nat} {xs : List Int} (a : Gt n xs) : Lt xs := fun x hx => by
  rcases a.let_ x hx with rfl | rfl | rfl <;> omega
theorem lenD_li (x : List Int) : lenD [li x] = some (.im (.int (x.length : Nat))) := by simp [lenD, li]
namespace K01
/-! ### the box -/
theorem v_box (ns : List Int) (k : Nat) (hk : k < 4) : ∃ c, Bx 0 c ∧ ∀ ρ, foE 2 m_law_box [li ns, .int (k : Int)] ρ = .ok (.fr (bx c)) ρ := by
  have fin2 : ∀ cell : Int, ∃ c, Bx 0 c ∧ out (retS (lstF (consD (opF ixD (lstF (consD (cF (.int 0)) (consD (varF 2) nilD))) (callF intOfD (consF (opF geD (varF 2) (opF powD (cF (.int 10)) (cF (.int 18)))) nilF))) (consD (opF addD (opF modD (callF intOfD (consF (opF addD (opF mulD (opF modD (callF intOfD (consF (varF 2) nilF)) (cF (.int 2147483629))) (cF (.int 38377))) (opF mulD (cF (.int 71129)) (varF 1))) nilF)) (cF (.int 2147483629))) (cF (.int 1))) (consD (cF (.int 0)) nilD)))) [.im (li ns), .im (.int (k : Int)), .im (.int cell)]) = some (.fr (bx c)) := by
    intro cell
    have q1 : 0 ≤ cell % 2147483629 := Int.emod_nonneg _ (by decide)
    have q2 : cell % 2147483629 < 2147483629 := Int.emod_lt_of_pos _ (by decide)
    have m1 := @mod_ok cell 2147483629 (by decide)
    have m2 := @small_mul (cell % 2147483629) 38377 (by omega) (by decide)
    have m3 := @small_mul 71129 (k : Int) (by decide) (by omega)
    have m4 := @mod_ok (cell % 2147483629 * 38377 + 71129 * (k : Int)) 2147483629 (by decide)
    have r1 : 0 ≤ (cell % 2147483629 * 38377 + 71129 * (k : Int)) % 2147483629 := Int.emod_nonneg _ (by decide)
    have r2 : (cell % 2147483629 * 38377 + 71129 * (k : Int)) % 2147483629 < 2147483629 := Int.emod_lt_of_pos _ (by decide)
    have p : powD (.int 10) (.int 18) = some (.im (.int 1000000000000000000)) := by rfl
    have i0 : ixD (.list [.int 0, .int cell]) (.int 0) = some (.im (.int 0)) := ixD_l (i := 0) rfl
    have i1 : ixD (.list [.int 0, .int cell]) (.int 1) = some (.im (.int cell)) := ixD_l (i := 1) rfl
    by_cases hc : 1000000000000000000 ≤ cell
    · refine ⟨(cell, (cell % 2147483629 * 38377 + 71129 * (k : Int)) % 2147483629 + 1, 0), ⟨by show 0 ≤ cell; omega, by show 0 ≤ _ + (1 : Int); omega, by show _ + (1 : Int) < _; omega, Int.le_refl _, Int.le_refl _⟩, ?_⟩
      simp [retS, lstF, consD, consF, nilF, nilD, opF, op2, callF, call1, drs, dr, varF, cF, bd, bs, frz, fin, dat, lstD, sizeLine_eq, p, geD, intD, hc, intOfD, i0, i1, m1, m2, m3, m4, addD, out, retV, bx]
    · refine ⟨(0, (cell % 2147483629 * 38377 + 71129 * (k : Int)) % 2147483629 + 1, 0), ⟨Int.le_refl _, by show 0 ≤ _ + (1 : Int); omega, by show _ + (1 : Int) < _; omega, Int.le_refl _, Int.le_refl _⟩, ?_⟩
      simp [retS, lstF, consD, consF, nilF, nilD, opF, op2, callF, call1, drs, dr, varF, cF, bd, bs, frz, fin, dat, lstD, sizeLine_eq, p, geD, intD, hc, intOfD, i0, i1, m1, m2, m3, m4, addD, out, retV, bx]
  have M0 := @small_mul 6121 (k : Int) (by decide) (by omega)
  have A : asgS 2 (opF addD (opF mulD (cF (.int 6121)) (varF 1)) (cF (.int 877))) [.im (li ns), .im (.int (k : Int)), .un] = .nx [.im (li ns), .im (.int (k : Int)), .im (.int (6121 * (k : Int) + 877))] := by
    simp [asgS, opF, op2, cF, varF, bd, bs, frz, dr, fin, M0, addD, setN, pinned]
  have B : ∃ cell : Int, iteS (tstF (opF ltD (varF 1) (callF lenD (consF (varF 0) nilF))))
      (asgS 2 (callF absD (consF (opF ixD (varF 0) (varF 1)) nilF)))
      (iteS (tstF (opF gtD (callF lenD (consF (varF 0) nilF)) (cF (.int 0))))
      (asgS 2 (opF addD (varF 2) (opF mulD (opF modD (callF intOfD (consF (callF absD (consF (opF ixD (varF 0) (opF modD (callF intOfD (consF (varF 1) nilF)) (callF lenD (consF (varF 0) nilF)))) nilF)) nilF)) (cF (.int 2147483629))) (cF (.int 60013)))))
      nxS) [.im (li ns), .im (.int (k : Int)), .im (.int (6121 * (k : Int) + 877))] = .nx [.im (li ns), .im (.int (k : Int)), .im (.int cell)] := by
    by_cases h1 : k < ns.length
    · have g : ixD (li ns) (.int (k : Int)) = some (.im (.int (ns[k]'h1))) := ixD_l (by rw [List.getElem?_map, List.getElem?_eq_getElem h1]; rfl)
      refine ⟨if ns[k]'h1 < 0 then -(ns[k]'h1) else ns[k]'h1, ?_⟩
      simp [iteS, tstF, opF, op2, callF, call1, drs, consF, nilF, varF, cF, bd, bs, frz, dr, fin, lenD_li, ltD, intD, blO, h1, asgS, g, absD, setN, pinned]
    · by_cases h2 : 0 < ns.length
      · have hm : k % ns.length < ns.length := Nat.mod_lt _ h2
        have m1 := @mod_ok (k : Int) (ns.length : Int) (by omega)
        have e1 : (k : Int) % (ns.length : Int) = ((k % ns.length : Nat) : Int) := (Int.natCast_emod k ns.length).symm
        rw [e1] at m1
        have g : ixD (li ns) (.int ((k % ns.length : Nat) : Int)) = some (.im (.int (ns[k % ns.length]'hm))) := ixD_l (by rw [List.getElem?_map, List.getElem?_eq_getElem hm]; rfl)
        have e2 : ∀ z : Int, absD [.int z] = some (.im (.int (if z < 0 then -z else z))) := fun z => rfl
        generalize (ns[k % ns.length]'hm) = z at g
        have e3 := e2 z
        generalize (if z < 0 then -z else z) = y at e3
        have m2 := @mod_ok y 2147483629 (by decide)
        have q1 : 0 ≤ y % 2147483629 := Int.emod_nonneg _ (by decide)
        have q2 : y % 2147483629 < 2147483629 := Int.emod_lt_of_pos _ (by decide)
        have m3 := @small_mul (y % 2147483629) 60013 (by omega) (by decide)
        refine ⟨6121 * (k : Int) + 877 + y % 2147483629 * 60013, ?_⟩
        simp only [iteS, tstF, opF, op2, callF, call1, drs, consF, nilF, varF, cF, bd_ok, bs_ok, frz, dr, fin, lenD_li, ltD, gtD, intD, blO, asgS, g, e3, m1, m2, m3, intOfD, addD, setN, pinned, List.getElem?_cons_zero, List.getElem?_cons_succ, List.set_cons_zero, List.set_cons_succ, if_true, Bool.false_eq_true, if_false]
        rw [decide_eq_false (by omega), decide_eq_true (by omega)]
        simp
      · refine ⟨6121 * (k : Int) + 877, ?_⟩
        have h3 : ns.length = 0 := by omega
        simp [iteS, tstF, opF, op2, callF, call1, drs, consF, nilF, varF, cF, bd, bs, frz, dr, fin, lenD_li, ltD, gtD, intD, blO, h3, nxS]
        omega
  obtain ⟨cell, B⟩ := B
  obtain ⟨c, hc, e⟩ := fin2 cell
  refine ⟨c, hc, fun ρ => foE_fr (n := 2) (k := 1) (G := G_law_box) (ds := [li ns, .int (k : Int)]) ?_ rfl ρ⟩
  unfold G_law_box
  show out (seqS _ _ [.im (li ns), .im (.int (k : Int)), .un]) = _
  rw [seq_nx A, seq_nx B]
  exact e
theorem v_pick {n : Nat} {c : Int × Int × Int} (h : Bx n c) (hn : n < 1000) {es : List D} (h0 : 0 < es.length) (h1 : es.length < 1000000) : ∃ d c', d ∈ es ∧ Bx (n + 1) c' ∧ ∀ (ρ : Rho) (i : Nat) (b : Bool), ρ[i]? = some (.ow b (bx c)) →
    foI 2 m_law_pick i [.list es] ρ = .ok (.im d) (ρ.set i (.ow b (bx c'))) := by
  have hm : (0 : Int) < (es.length : Int) := by omega
  obtain ⟨d0, d1⟩ := dig_b c hm
  obtain ⟨j, hj⟩ : ∃ j : Nat, dig c (es.length : Int) = (j : Int) := ⟨_, (Int.toNat_of_nonneg d0).symm⟩
  have hl : j < es.length := by omega
  refine ⟨es[j]'hl, box c (es.length : Int), List.getElem_mem hl, box_ok h hm, fun ρ i b hi => ?_⟩
  refine foI_of (r := [.im (.list es)]) ?_ rfl hi
  unfold G_law_pick
  have t := @v_take n c h hn (es.length : Int) hm (by omega) [.ow true (bx c), .im (.list es)] 0 true rfl
  have g : ixD (.list es) (.int (j : Int)) = some (.im (es[j]'hl)) := ixD_l (List.getElem?_eq_getElem hl)
  rw [hj] at t
  simp [retS, opF, op2, varF, clI, isOw, consD, callF, call1, drs, consF, nilF, nilD, lenD, bd, bs, frz, dr, fin, dat, unS, t, g]
/-! ### rows of letters -/
abbrev e_row : Rho → Ou Rs := opF ixD (tupF (consD (cF (.int 3)) (consD (cF (.int 47)) (consD (cF (.int 99)) nilD)))) (clI 2 m_law_take 0 (consD (varF 1) nilD))
theorem t_row {n : Nat} {c : Int × Int × Int} (h : Bx n c) (hn : n < 1000) {letters : Int} (l1 : 1 ≤ letters) (l3 : letters ≤ 3) (L y : Sl) :
    ∃ x, (x = 3 ∨ x = 47 ∨ x = 99) ∧ bd (frz (e_row [.ow true (bx c), .im (.int letters), L, y])) dat = .ok (.int x) [.ow true (bx (box c letters)), .im (.int letters), L, y] := by
  obtain ⟨d0, d1⟩ := dig_b c (show 0 < letters by omega)
  have t := @v_take n c h hn letters (by omega) (by omega) [.ow true (bx c), .im (.int letters), L, y] 0 true rfl
  have T : ∀ z x : Int, dig c letters = z → ixD (.tuple [.int 3, .int 47, .int 99]) (.int z) = some (.im (.int x)) → bd (frz (e_row [.ow true (bx c), .im (.int letters), L, y])) dat = .ok (.int x) [.ow true (bx (box c letters)), .im (.int letters), L, y] := by
    intro z x hz hx
    rw [hz] at t
    simp [e_row, opF, op2, tupF, consD, cF, nilD, bd, frz, dat, tupD, sizeLine_eq, clI, isOw, varF, t, dr, hx, fin]
  have hd : dig c letters = 0 ∨ dig c letters = 1 ∨ dig c letters = 2 := by omega
  rcases hd with hd | hd | hd
  · exact ⟨3, .inl rfl, T 0 3 hd rfl⟩
  · exact ⟨47, .inr (.inl rfl), T 1 47 hd rfl⟩
  · exact ⟨99, .inr (.inr rfl), T 2 99 hd rfl⟩
theorem l_row {letters : Int} (l1 : 1 ≤ letters) (l3 : letters ≤ 3) (L : Sl) : ∀ (ds acc : List D) (n : Nat) (c : Int × Int × Int), Bx n c → n + ds.length < 1000 → acc.length + ds.length ≤ sizeLine → ∃ c' xs, Bx (n + ds.length) c' ∧ Gt ds.length xs ∧
    lcL (nameT 3) yesF e_row [3] ds acc [.ow true (bx c), .im (.int letters), L, .un] = .ok (acc ++ xs.map .int) [.ow true (bx c'), .im (.int letters), L, .un]
  | [], acc, n, c, h, _, _ => ⟨c, [], h, ⟨Nat.le_refl _, fun _ z => nomatch z⟩, by simp [lcL]⟩
  | d :: ds, acc, n, c, h, hn, hl => by
    rw [List.length_cons] at hn hl
    obtain ⟨x, hx, e⟩ := t_row h (by omega) l1 l3 L (.im d)
    obtain ⟨c', xs, h', g, ih⟩ := l_row l1 l3 L ds (acc ++ [.int x]) (n + 1) (box c letters) (box_ok h (by omega)) (by omega) (by rw [List.length_append]; simp; omega)
    refine ⟨c', x :: xs, h'.mono (by rw [List.length_cons]; omega), ⟨by have := g.len; rw [List.length_cons, List.length_cons]; omega, fun z hz => ?_⟩, ?_⟩
    · rcases List.mem_cons.mp hz with rfl | hz
      · exact hx
      · exact g.let_ z hz
    · have e1 : nameT 3 d [.ow true (bx c), .im (.int letters), L, .un] = some [.ow true (bx c), .im (.int letters), L, .im d] := rfl
      unfold lcL
      rw [e1]
      simp only [yesF, bdn, if_true, e]
      rw [if_pos ⟨by omega, rfl⟩]
      have w : wipeR [.ow true (bx (box c letters)), .im (.int letters), L, .im d] [3] = [.ow true (bx (box c letters)), .im (.int letters), L, .un] := rfl
      rw [w, ih]
      simp
end K01
theorem lcp_take : ∀ a b : List Int, a.take (lcp a b) = b.take (lcp a b)
  | [], b => by simp [lcp]
  | _ :: _, [] => by simp [lcp]
  | x :: xs, y :: ys => by
    unfold lcp
    by_cases h : x = y
    · rw [if_pos h, List.take_succ_cons, List.take_succ_cons, h, lcp_take xs ys]
    · rw [if_neg h]; simp
theorem lcp_max : ∀ (a b : List Int) (i : Nat), i ≤ a.length → a.take i = b.take i → i ≤ lcp a b
  | _, _, 0, _, _ => Nat.zero_le _
  | [], _, i + 1, h, _ => by simp at h
  | _ :: _, [], i + 1, _, e => by simp at e
  | x :: xs, y :: ys, i + 1, h, e => by
    rw [List.take_succ_cons, List.take_succ_cons] at e
    injection e with e1 e2
    have := lcp_max xs ys i (by simpa using h) e2
    unfold lcp
    rw [if_pos e1]
    omega
theorem end_rev (a : List Int) (i : Nat) : a.reverse.take i = (a.drop (a.length - i)).reverse := by rw [List.take_reverse]
theorem lcs_drop (a b : List Int) : a.drop (a.length - lcs a b) = b.drop (b.length - lcs a b) := by
  have := lcp_take a.reverse b.reverse
  rw [end_rev, end_rev] at this
  exact List.reverse_inj.mp this
theorem lcs_max (a b : List Int) (i : Nat) (h : i ≤ a.length) (e : a.drop (a.length - i) = b.drop (b.length - i)) : i ≤ lcs a b := by
  refine lcp_max a.reverse b.reverse i (by simpa using h) ?_
  rw [end_rev, end_rev, e]
theorem sl_to' {xs : List Int} {n : Nat} : slD (ti xs) none (some (n : Int)) = some (.im (ti (xs.take n))) := by
  by_cases h : n ≤ xs.length
  · exact sl_to h
  · unfold slD ti cutD HT.sIx
    dsimp only
    rw [if_neg (by omega), show min (n : Int).toNat (xs.map PyData.int).length = xs.length by rw [List.length_map]; omega]
    rw [List.take_of_length_le (by simp), List.take_of_length_le (by omega)]
    simp
theorem lcL_nat {T : Tg} {C : Rho → Ou Bool} {E : Rho → Ou Rs} {vs : List Nat} {ρ : Rho} {q : Nat → Bool} : ∀ (is : List Nat) (acc : List D), (∀ i ∈ is, ∃ ρ1, T (.int (i : Nat)) ρ = some ρ1 ∧ C ρ1 = .ok (q i) ρ1 ∧ bd (frz (E ρ1)) dat = .ok (.int (i : Nat)) ρ1 ∧ plainAt ρ1 vs = true ∧ wipeR ρ1 vs = ρ) → acc.length + is.length ≤ sizeLine →
    lcL T C E vs (is.map fun (i : Nat) => PyData.int (i : Int)) acc ρ = .ok (acc ++ (is.filter q).map fun (i : Nat) => PyData.int (i : Int)) ρ
  | [], acc, _, _ => by simp [lcL]
  | i :: is, acc, h, hl => by
    obtain ⟨ρ1, e1, e2, e3, e4, e5⟩ := h i List.mem_cons_self
    rw [List.length_cons] at hl
    have ih1 := lcL_nat (T := T) (C := C) (E := E) (vs := vs) (ρ := ρ) (q := q) is (acc ++ [.int (i : Nat)]) (fun c hc => h c (List.mem_cons_of_mem _ hc)) (by rw [List.length_append]; simp; omega)
    have ih2 := lcL_nat (T := T) (C := C) (E := E) (vs := vs) (ρ := ρ) (q := q) is acc (fun c hc => h c (List.mem_cons_of_mem _ hc)) (by omega)
    rw [List.map_cons]
    unfold lcL
    rw [e1]
    simp only [e2, bdn]
    cases hq : q i with
    | true =>
      simp only [if_true, e3]
      rw [if_pos ⟨by omega, e4⟩, e5, ih1, List.filter_cons_of_pos hq]
      simp
    | false =>
      rw [if_neg Bool.false_ne_true, if_pos e4, e5, ih2, List.filter_cons_of_neg (by rw [hq]; exact Bool.false_ne_true)]
theorem ints_nat : ∀ is : List Nat, intsD (is.map fun (i : Nat) => PyData.int (i : Int)) = some (is.map fun (i : Nat) => (i : Int))
  | [] => rfl
  | i :: is => by
    rw [List.map_cons, List.map_cons]
    show (intsD _).map _ = _
    rw [ints_nat is]
    rfl
theorem max_nat {is : List Nat} {m : Nat} (h1 : m ∈ is) (h2 : ∀ i ∈ is, i ≤ m) : maxLD [.list (is.map fun (i : Nat) => PyData.int (i : Int))] = some (.im (.int (m : Nat))) := by
  have e : (is.map fun (i : Nat) => (i : Int)).max? = some (m : Int) := List.max?_eq_some_iff.mpr ⟨List.mem_map.mpr ⟨m, h1, rfl⟩, fun b hb => by
    obtain ⟨i, hi, rfl⟩ := List.mem_map.mp hb
    have := h2 i hi
    omega⟩
  show ((intsD _).bind fun ns => ns.max?.map fun m => Rs.im (.int m)) = _
  rw [ints_nat]
  show (is.map fun (i : Nat) => (i : Int)).max?.map _ = _
  rw [e]
  rfl
namespace K01
abbrev c_tails : Rho → Ou Bool := andF (tstF (opF leD (varF 5) (callF lenD (consF (varF 1) nilF)))) (tstF (opF eqD (slF (varF 0) (parO (opF subD (callF lenD (consF (varF 0) nilF)) (varF 5))) noO) (slF (varF 1) (parO (opF subD (callF lenD (consF (varF 1) nilF)) (varF 5))) noO)))
abbrev c_heads : Rho → Ou Bool := tstF (opF eqD (slF (varF 0) noO (parO (varF 5))) (slF (varF 2) noO (parO (varF 5))))
theorem t_tails (b m : List Int) (Y u v : Sl) (i : Nat) (hi : i ≤ b.length) : c_tails [.im (ti b), .im (ti m), Y, u, v, .im (.int (i : Nat))] = .ok (decide (i ≤ m.length ∧ b.drop (b.length - i) = m.drop (m.length - i))) [.im (ti b), .im (ti m), Y, u, v, .im (.int (i : Nat))] := by
  by_cases h : i ≤ m.length
  · have e1 : ((b.length : Nat) : Int) - (i : Nat) = ((b.length - i : Nat) : Int) := by omega
    have e2 : ((m.length : Nat) : Int) - (i : Nat) = ((m.length - i : Nat) : Int) := by omega
    have s1 := @sl_from b (b.length - i) (by omega)
    have s2 := @sl_from m (m.length - i) (by omega)
    simp only [c_tails, andF, tstF, opF, op2, varF, callF, call1, drs, consF, nilF, bd_ok, frz, dr, fin, lenD_ti, leD, subD, intD, if_true, blO, slF, parO, noO, intO, slO, e1, e2, s1, s2, eqD_ti, List.getElem?_cons_zero, List.getElem?_cons_succ]
    have h' : ((i : Nat) : Int) ≤ ((m.length : Nat) : Int) := by omega
    simp [h, h']
  · have h' : ¬ ((i : Nat) : Int) ≤ ((m.length : Nat) : Int) := by omega
    simp [c_tails, andF, tstF, opF, op2, varF, callF, call1, drs, consF, nilF, bd, frz, dr, fin, lenD_ti, leD, intD, blO, h, h']
theorem t_heads (b y : List Int) (M u v : Sl) (i : Nat) : c_heads [.im (ti b), M, .im (ti y), u, v, .im (.int (i : Nat))] = .ok (decide (b.take i = y.take i)) [.im (ti b), M, .im (ti y), u, v, .im (.int (i : Nat))] := by
  simp [c_heads, tstF, opF, op2, varF, bd, frz, dr, fin, blO, slF, parO, noO, intO, slO, sl_to', eqD_ti]
end K01
def sg (s : Int) (xs : List Int) : Wd := xs.map fun x => (x, s)
theorem push_new {st : Wd} {p : Int × Int} (h : ∀ q r, st = q :: r → ¬ (q.1 = p.1 ∧ q.2 ≠ p.2)) : push st p = p :: st := by
  unfold push
  split
  · rfl
  · rename_i q r
    rw [if_neg (h q r rfl)]
theorem run_same (s : Int) : ∀ (xs : List Int) (st : Wd), (∀ q r x ys, st = q :: r → xs = x :: ys → ¬ (q.1 = x ∧ q.2 ≠ s)) → (sg s xs).foldl push st = (sg s xs).reverse ++ st
  | [], st, _ => rfl
  | x :: xs, st, h => by
    have e : push st (x, s) = (x, s) :: st := push_new fun q r hq => h q r x xs hq rfl
    show ((sg s xs).foldl push (push st (x, s))) = _
    rw [e, run_same s xs ((x, s) :: st) (fun q r y ys hq _ hh => by
      injection hq with h1 _
      subst h1
      exact hh.2 rfl)]
    simp [sg]
theorem run_cancel {s t : Int} (ht : t ≠ s) (st : Wd) : ∀ (B R : List Int), (sg s B).foldl push (sg t R ++ st) = (sg s (B.drop (lcp B R))).foldl push (sg t (R.drop (lcp B R)) ++ st)
  | [], R => by simp [lcp]
  | x :: B, [] => by simp [lcp]
  | x :: B, z :: R => by
    by_cases h : x = z
    · have e : lcp (x :: B) (z :: R) = lcp B R + 1 := by rw [lcp, if_pos h]
      have p : push (sg t (z :: R) ++ st) (x, s) = sg t R ++ st := by
        show (if z = x ∧ t ≠ s then sg t R ++ st else _) = _
        rw [if_pos ⟨h.symm, ht⟩]
      rw [e, List.drop_succ_cons, List.drop_succ_cons]
      show (sg s B).foldl push (push (sg t (z :: R) ++ st) (x, s)) = _
      rw [p]
      exact run_cancel ht st B R
    · have e : lcp (x :: B) (z :: R) = 0 := by rw [lcp, if_neg h]
      rw [e]; rfl
theorem lcp_stop : ∀ (B R : List Int) (x z : Int) (B' R' : List Int), B.drop (lcp B R) = x :: B' → R.drop (lcp B R) = z :: R' → x ≠ z
  | [], _, _, _, _, _, h, _ => by simp at h
  | _ :: _, [], _, _, _, _, _, h => by simp at h
  | a :: B, c :: R, x, z, B', R', h1, h2 => by
    by_cases h : a = c
    · have e : lcp (a :: B) (c :: R) = lcp B R + 1 := by rw [lcp, if_pos h]
      rw [e, List.drop_succ_cons] at h1 h2
      exact lcp_stop B R x z B' R' h1 h2
    · have e : lcp (a :: B) (c :: R) = 0 := by rw [lcp, if_neg h]
      rw [e, List.drop_zero] at h1 h2
      injection h1 with h3 _
      injection h2 with h4 _
      rw [← h3, ← h4]
      exact h
/-- both at once -/
theorem run_both {s t : Int} (ht : t ≠ s) (st : Wd) (B R : List Int) (hs : ∀ q r, st = q :: r → q.2 = s) : (sg s B).foldl push (sg t R ++ st) = (sg s (B.drop (lcp B R))).reverse ++ (sg t (R.drop (lcp B R)) ++ st) := by
  rw [run_cancel ht st B R, run_same]
  intro q r x ys hq hx hh
  cases hR : R.drop (lcp B R) with
  | nil =>
    rw [hR] at hq
    exact hh.2 (hs q r hq)
  | cons z R' =>
    rw [hR] at hq
    injection hq with h1 _
    subst h1
    exact lcp_stop B R x z ys R' hx hR hh.1.symm
theorem lcp_comm : ∀ a b : List Int, lcp a b = lcp b a
  | [], [] => rfl
  | [], _ :: _ => rfl
  | _ :: _, [] => rfl
  | x :: xs, y :: ys => by
    unfold lcp
    rw [lcp_comm xs ys]
    by_cases h : x = y
    · rw [if_pos h, if_pos h.symm]
    · rw [if_neg h, if_neg fun z => h z.symm]
theorem lcp_cut : ∀ (y b : List Int) (n : Nat), n ≤ b.length → lcp y (b.take n) = min (lcp b y) n
  | y, b, 0, _ => by
    cases y <;> simp [lcp]
  | [], b, n + 1, _ => by cases b <;> simp [lcp]
  | y :: ys, [], n + 1, h => by simp at h
  | y :: ys, x :: b, n + 1, h => by
    rw [List.take_succ_cons, lcp, lcp]
    by_cases e : y = x
    · rw [if_pos e, if_pos e.symm, lcp_cut ys b n (by simpa using h)]
      omega
    · rw [if_neg e, if_neg fun z => e z.symm]
      omega
namespace K01
theorem strike_is (m b y : List Int) : strike (pl m ++ mi b ++ pl y) = sg 1 (m.take (m.length - lcs b m)) ++ (sg (-1) ((b.take (least b m)).drop (min (grt b y) (least b m)))).reverse ++ sg 1 (y.drop (min (grt b y) (least b m))) := by
  have hl := lcs_le b m
  have hle : least b m ≤ b.length := by unfold least; omega
  unfold strike
  rw [List.foldl_append, List.foldl_append]
  have e0 : (pl m).foldl push [] = sg 1 m.reverse := by
    have := run_same 1 m [] (fun q r x ys h => nomatch h)
    rw [List.append_nil] at this
    show (sg 1 m).foldl push [] = _
    rw [this]
    simp [sg, List.map_reverse]
  have e1 : (mi b).foldl push (sg 1 m.reverse) = sg (-1) (b.take (least b m)) ++ sg 1 ((m.take (m.length - lcs b m)).reverse) := by
    have := run_both (s := -1) (t := 1) (by decide) [] b.reverse m.reverse (fun q r h => nomatch h)
    rw [List.append_nil, List.append_nil] at this
    show (sg (-1) b.reverse).foldl push (sg 1 m.reverse) = _
    rw [this]
    show (sg (-1) (b.reverse.drop (lcs b m))).reverse ++ sg 1 (m.reverse.drop (lcs b m)) = _
    rw [List.drop_reverse, List.drop_reverse]
    unfold sg least
    rw [List.map_reverse, List.reverse_reverse]
  rw [e0, e1]
  have e2 := run_both (s := 1) (t := -1) (by decide) (sg 1 ((m.take (m.length - lcs b m)).reverse)) y (b.take (least b m)) (fun q r h => by
    have : q ∈ sg 1 ((m.take (m.length - lcs b m)).reverse) := by rw [h]; exact List.mem_cons_self
    obtain ⟨_, _, rfl⟩ := List.mem_map.mp this
    rfl)
  show ((sg 1 y).foldl push _).reverse = _
  rw [e2, lcp_cut y b (least b m) hle]
  rw [List.reverse_append, List.reverse_append, List.reverse_reverse]
  unfold sg
  rw [List.map_reverse, List.reverse_reverse]
  rfl
theorem strike_clash {m b y : List Int} (h : grt b y < least b m) : strike (pl m ++ mi b ++ pl y) = pl (m.take (m.length - lcs b m)) ++ mi ((b.take (least b m)).drop (grt b y)) ++ pl (y.drop (grt b y)) := by
  rw [strike_is, show min (grt b y) (least b m) = grt b y by omega]
  unfold sg pl mi
  rw [List.map_reverse]
theorem strike_go {m b y : List Int} (h : least b m ≤ grt b y) : strike (pl m ++ mi b ++ pl y) = pl (m.take (m.length - lcs b m)) ++ pl (y.drop (least b m)) := by
  rw [strike_is, show min (grt b y) (least b m) = least b m by omega, List.drop_take_self]
  simp [sg, pl]
end K01
/-- small numbers -/
def Sm (i : Int) : Prop := i.natAbs < 10 ^ 12
theorem sm_log {i : Int} (h : Sm i) : i.natAbs.log2 < 40 := log2_le (Nat.lt_trans h (by decide)) (by decide)
theorem w_int {i : Int} (h : Sm i) : (PyData.int i).weight ≤ 40 := by
  have := sm_log h
  simp only [PyData.weight]
  split <;> omega
theorem short_all {w : Wd} (h : ∀ p ∈ w, Sm p.1 ∧ Sm p.2) : PyData.leavesShortAll 13 (w.map pr) = true ∧ PyData.showableAll (w.map pr) = true ∧ PyData.hasDictAll (w.map pr) = false ∧ PyData.depthAll (w.map pr) ≤ 1 ∧ PyData.weightAll (w.map pr) ≤ 100 * w.length := by
  induction w with
  | nil => simp [PyData.leavesShortAll, PyData.showableAll, PyData.hasDictAll, PyData.depthAll, PyData.weightAll]
  | cons p w ih =>
    obtain ⟨h1, h2⟩ := h p List.mem_cons_self
    obtain ⟨i1, i2, i3, i4, i5⟩ := ih fun q hq => h q (List.mem_cons_of_mem _ hq)
    have z1 := PyData.shown_int_le h1
    have z2 := PyData.shown_int_le h2
    have g1 : p.1.natAbs.log2 < 1920 := Nat.lt_trans (sm_log h1) (by decide)
    have g2 : p.2.natAbs.log2 < 1920 := Nat.lt_trans (sm_log h2) (by decide)
    have w1 := w_int h1
    have w2 := w_int h2
    refine ⟨?_, ?_, ?_, ?_, ?_⟩
    · simp [PyData.leavesShortAll, PyData.leavesShort, pr, i1, z1, z2]
    · simp [PyData.showableAll, PyData.showable, pr, i2, g1, g2]
    · simp [PyData.hasDictAll, PyData.hasDict, pr, i3]
    · simp [PyData.depthAll, PyData.depth, pr]; omega
    · rw [List.map_cons, PyData.weightAll, List.length_cons]
      have e : (pr p).weight = PyData.weightAll [.int p.1, .int p.2] := PyData.weight.eq_3 _
      rw [e]
      simp only [PyData.weightAll]
      omega
theorem shw_wt {w : Wd} (h : ∀ p ∈ w, Sm p.1 ∧ Sm p.2) (hl : w.length ≤ 1000) : ∃ x, shw (wt w) = some x := by
  obtain ⟨i1, i2, i3, i4, i5⟩ := short_all h
  refine ⟨(wt w).shown, ?_⟩
  have f : (wt w).shown.length ≤ sizeLine := PyData.shown_fits (B := 13) (by decide) (by decide) (by simpa [wt, PyData.leavesShort] using i1) (by rw [wt, PyData.weight]; omega)
  show (if (wt w).showable = true ∧ (wt w).hasDict = false ∧ (wt w).depth ≤ 64 ∧ (wt w).shown.length ≤ sizeLine then some (wt w).shown else none) = _
  rw [if_pos ⟨by simpa [wt, PyData.showable] using i2, by simpa [wt, PyData.hasDict] using i3, by rw [wt, PyData.depth]; omega, f⟩]
theorem shw_two {i j : Int} (h1 : Sm i) (h2 : Sm j) : ∃ x, shw (.tuple [.int i, .int j]) = some x := by
  have z1 := PyData.shown_int_le h1
  have z2 := PyData.shown_int_le h2
  have g1 : i.natAbs.log2 < 1920 := Nat.lt_trans (sm_log h1) (by decide)
  have g2 : j.natAbs.log2 < 1920 := Nat.lt_trans (sm_log h2) (by decide)
  have w1 := w_int h1
  have w2 := w_int h2
  refine ⟨(PyData.tuple [.int i, .int j]).shown, ?_⟩
  have f : (PyData.tuple [.int i, .int j]).shown.length ≤ sizeLine := PyData.shown_fits (B := 13) (by decide) (by decide) (by simp [PyData.leavesShort, PyData.leavesShortAll, z1, z2]) (by rw [PyData.weight.eq_3]; simp only [PyData.weightAll]; omega)
  show (if (PyData.tuple [.int i, .int j]).showable = true ∧ (PyData.tuple [.int i, .int j]).hasDict = false ∧ (PyData.tuple [.int i, .int j]).depth ≤ 64 ∧ (PyData.tuple [.int i, .int j]).shown.length ≤ sizeLine then some (PyData.tuple [.int i, .int j]).shown else none) = _
  rw [if_pos ⟨by simp [PyData.showable, PyData.showableAll, g1, g2], by simp [PyData.hasDict, PyData.hasDictAll], by simp [PyData.depth, PyData.depthAll], f⟩]
theorem reprD_of {d : D} {x : Str} (h : shw d = some x) : reprD [d] = some (.im (.str x)) := by
  unfold reprD
  dsimp only
  rw [h]
  rfl
theorem neSD_same (x : Str) : neSD (.str x) (.str x) = some (.im (.bool false)) := by simp [neSD]
namespace K01
theorem shw_cl {b m y : List Int} (hb : b.length < 1000) : ∃ x, shw (cl b m y) = some x := by
  have := grt_le b y
  unfold cl
  split
  · exact ⟨_, rfl⟩
  · refine shw_two ?_ ?_
    · show (grt b y : Nat) < 10 ^ 12
      omega
    · show (least b m : Nat) < 10 ^ 12
      unfold least
      omega
/-- a value that is no text -/
def noT (d : D) : Prop := textOf d = .none
end K01
def np (y : Sl) : Bool := match y with
  | .ow true _ => true
  | _ => false
theorem pin_0 (y : Sl) (l : Rho) : pinned (y :: l) 0 = np y := by
  unfold pinned np
  rw [List.getElem?_cons_zero]
  cases y with
  | ow b ds => cases b <;> rfl
  | _ => rfl
theorem pin_s (y : Sl) (l : Rho) (i : Nat) : pinned (y :: l) (i + 1) = pinned l i := by
  unfold pinned
  rw [List.getElem?_cons_succ]
theorem np_im (d : D) : np (.im d) = false := rfl
theorem np_un : np .un = false := rfl
theorem np_ow (d : List D) : np (.ow false d) = false := rfl
abbrev Ch := List Int × List Int
def chD (c : Ch) : D := .tuple [ti c.1, ti c.2]
namespace K01
theorem ix_row {d a b : D} (h : isSeq d = some [a, b]) : ixD d (.int 0) = some (.im a) ∧ ixD d (.int 1) = some (.im b) := by
  cases d with
  | list ds => cases Option.some.inj h; exact ⟨rfl, rfl⟩
  | tuple ds => cases Option.some.inj h; exact ⟨rfl, rfl⟩
  | _ => cases h
theorem apD_ok {xs : List D} {d : D} (h : xs.length < sizeLine) : apD xs [d] = some (.none, xs ++ [d]) := by
  unfold apD
  dsimp only
  rw [if_pos h]
theorem isNon_ti (xs : List Int) : isNon (ti xs) = false := rfl
theorem isNon_none : isNon .none = true := rfl
theorem textOf_cases (d : D) : textOf d = .none ∨ ∃ ds, textOf d = .tuple ds := by
  unfold textOf
  split
  · split
    · exact .inr ⟨_, rfl⟩
    · exact .inl rfl
  · exact .inl rfl
theorem v_is_row_of (d : D) (k : Int) (ρ : Rho) : foE 2 m_is_row_of [d, .int k] ρ = .ok (.im (.bool (match isSeq d with | some ds => decide ((ds.length : Int) = k) | none => false))) ρ := by
  refine foE_of ?_ rfl ρ
  unfold G_is_row_of
  cases d with
  | list ds => simp [retS, seqS, asgS, clF, clI, clKF, isOw, consD, consF, callF, call1, drs, opF, op2, unF, op1, varF, cF, nilD, nilF, bd, bs, frz, dr, fin, dat, setN, pin_0, pin_s, np_im, np_un, np_ow, iteS, tstF, blO, nxS, dropS, mutF, mutO, thaw, tupF, lstF, tupD, lstD, andF, orF, notF, andV, orV, notV, ifF, tgS, tupU, consT, nameT, nilT, parS, slF, noO, parO, intO, slO, isnD, unS, out, retV, negD, subD, intD, unF, op1, truF, truO, tru, ltD, gtD, leD, geD, v_is_sequence, isSeq, lenD, eqD_int]
  | tuple ds => simp [retS, seqS, asgS, clF, clI, clKF, isOw, consD, consF, callF, call1, drs, opF, op2, unF, op1, varF, cF, nilD, nilF, bd, bs, frz, dr, fin, dat, setN, pin_0, pin_s, np_im, np_un, np_ow, iteS, tstF, blO, nxS, dropS, mutF, mutO, thaw, tupF, lstF, tupD, lstD, andF, orF, notF, andV, orV, notV, ifF, tgS, tupU, consT, nameT, nilT, parS, slF, noO, parO, intO, slO, isnD, unS, out, retV, negD, subD, intD, unF, op1, truF, truO, tru, ltD, gtD, leD, geD, v_is_sequence, isSeq, lenD, eqD_int]
  | _ => rfl
theorem nc_head {d : D} {ds : List D} (h : isSeq d = some ds) : iteS (notF (tstF (clF 1 m_is_sequence (consD (varF 0) nilD)))) (rseS 0 (consD (unF negD (cF (.int 1))) nilD)) nxS [.im d, .un, .un, .un, .un, .un] = .nx [.im d, .un, .un, .un, .un, .un] := by
  simp [retS, seqS, asgS, clF, clI, clKF, isOw, consD, consF, callF, call1, drs, opF, op2, unF, op1, varF, cF, nilD, nilF, bd, bs, frz, dr, fin, dat, setN, pin_0, pin_s, np_im, np_un, np_ow, iteS, tstF, blO, nxS, dropS, mutF, mutO, thaw, tupF, lstF, tupD, lstD, andF, orF, notF, andV, orV, notV, ifF, tgS, tupU, consT, nameT, nilT, parS, slF, noO, parO, intO, slO, isnD, unS, out, retV, negD, subD, intD, unF, op1, truF, truO, tru, ltD, gtD, leD, geD, v_is_sequence, h]
theorem nc_enum {d : D} {ds : List D} (h : isSeq d = some ds) : enumUI (varF 0) [.im d, .ow false [], .un, .un, .un, .un] = .ok (numD 0 ds) [.im d, .ow false [], .un, .un, .un, .un] := by
  cases d with
  | list es => cases Option.some.inj h; simp [enumUI, varF, bd, frz, dat, enumUO]
  | tuple es => cases Option.some.inj h; simp [enumUI, varF, bd, frz, dat, enumUO]
  | _ => cases h
theorem nc_A (X : Sl) : asgS 1 (lstF nilD) [X, .un, .un, .un, .un, .un] = .nx [X, .ow false [], .un, .un, .un, .un] := by simp [retS, seqS, asgS, clF, clI, clKF, isOw, consD, consF, callF, call1, drs, opF, op2, unF, op1, varF, cF, nilD, nilF, bd, bs, frz, dr, fin, dat, setN, pin_0, pin_s, np_im, np_un, np_ow, iteS, tstF, blO, nxS, dropS, mutF, mutO, thaw, tupF, lstF, tupD, lstD, andF, orF, notF, andV, orV, notV, ifF, tgS, tupU, consT, nameT, nilT, parS, slF, noO, parO, intO, slO, isnD, unS, out, retV, negD, subD, intD, unF, op1, truF, truO, tru, ltD, gtD, leD, geD]
/-! ### changes put in front, one after another -/
theorem lcp_pre : ∀ (o x : List Int) (k : Nat), k ≤ o.length → (k ≤ lcp o x ↔ o.take k <+: x)
  | _, _, 0, _ => by simp
  | [], _, k + 1, h => by simp at h
  | a :: o, [], k + 1, h => by simp [lcp]
  | a :: o, b :: x, k + 1, h => by
    have ih := lcp_pre o x k (by simpa using h)
    rw [List.take_succ_cons, List.cons_prefix_cons, lcp]
    by_cases e : a = b
    · rw [if_pos e]
      constructor
      · intro h1; exact ⟨e, ih.mp (by omega)⟩
      · intro h1; have := ih.mpr h1.2; omega
    · rw [if_neg e]
      constructor
      · intro h1; omega
      · intro h1; exact absurd h1.1 e
def cutE (c : Ch) : Ch := (c.1.take (c.1.length - lcs c.1 c.2), c.2.take (c.2.length - lcs c.1 c.2))
def rcStep (s c : Ch) : Option Ch := if lcp s.2 (cutE c).1 < s.2.length ∧ lcp s.2 (cutE c).1 < (cutE c).1.length then none else
  some (s.1 ++ (cutE c).1.drop (lcp s.2 (cutE c).1), (cutE c).2 ++ s.2.drop (lcp s.2 (cutE c).1))
def rc : Nat → Ch → List Ch → Nat ⊕ Ch
  | _, s, [] => .inr s
  | i, s, c :: cs => match rcStep s c with
    | none => .inl i
    | some t => rc (i + 1) t cs
def put1 (c : Ch) (x : List Int) : Option (List Int) := if (cutE c).1 <+: x then some ((cutE c).2 ++ x.drop (cutE c).1.length) else none
def putN (cs : List Ch) (t : Option (List Int)) : Option (List Int) := cs.foldl (fun t c => t.bind (put1 c)) t
def Sx (s : Ch) (x : List Int) : Option (List Int) := if s.1 <+: x then some (s.2 ++ x.drop s.1.length) else none
theorem Sx_nil (x : List Int) : Sx ([], []) x = some x := by simp [Sx]
theorem Sx_app (l h u : List Int) : Sx (l, h) (l ++ u) = some (h ++ u) := by simp [Sx]
theorem Sx_no {s : Ch} {x : List Int} (h : ¬ s.1 <+: x) : Sx s x = none := if_neg h
theorem lcp_full {a b : List Int} (h : b <+: a) : lcp a b = b.length := by
  have l := lcp_le a b
  obtain ⟨r, rfl⟩ := h
  have := (lcp_pre (b ++ r) b b.length (by simp)).mpr (by simp)
  omega
theorem lcp_sym : ∀ a b : List Int, lcp a b = lcp b a
  | [], [] => rfl
  | [], _ :: _ => rfl
  | _ :: _, [] => rfl
  | x :: xs, y :: ys => by
    unfold lcp
    rw [lcp_sym xs ys]
    by_cases h : x = y
    · rw [if_pos h, if_pos h.symm]
    · rw [if_neg h, if_neg fun z => h z.symm]
theorem pre_of_lcp {a b : List Int} (h : lcp a b = b.length) : b <+: a := by
  have := (lcp_pre b a b.length (Nat.le_refl _)).mp (by rw [lcp_sym]; omega)
  rwa [List.take_length] at this
theorem step_some {s c t : Ch} (h : rcStep s c = some t) (x : List Int) : (Sx s x).bind (put1 c) = Sx t x := by
  obtain ⟨l, e⟩ := s
  unfold rcStep at h
  split at h
  · cases h
  · rename_i hc
    cases Option.some.inj h
    have hl := lcp_le e (cutE c).1
    dsimp only at hc hl ⊢
    by_cases hx : l <+: x
    · obtain ⟨u, rfl⟩ := hx
      rw [Sx_app]
      show put1 c (e ++ u) = _
      by_cases hk : lcp e (cutE c).1 = (cutE c).1.length
      · obtain ⟨r, hr⟩ := pre_of_lcp hk
        rw [hk, List.drop_length, List.append_nil]
        unfold put1
        rw [Sx_app, ← hr]
        rw [if_pos (by rw [List.append_assoc]; exact List.prefix_append _ _)]
        simp
      · have hk2 : lcp e (cutE c).1 = e.length := by omega
        obtain ⟨r, hr⟩ := pre_of_lcp (a := (cutE c).1) (b := e) (by rw [lcp_sym]; exact hk2)
        rw [hk2, List.drop_length, List.append_nil]
        unfold put1 Sx
        rw [← hr]
        have i1 : e ++ r <+: e ++ u ↔ r <+: u := List.prefix_append_right_inj e
        have i2 : l ++ r <+: l ++ u ↔ r <+: u := List.prefix_append_right_inj l
        by_cases hr2 : r <+: u
        · obtain ⟨v, rfl⟩ := hr2
          rw [if_pos (i1.mpr (List.prefix_append _ _))]
          dsimp only
          rw [List.drop_left, if_pos (i2.mpr (List.prefix_append _ _))]
          rw [show e ++ (r ++ v) = (e ++ r) ++ v by simp, List.drop_left, show l ++ (r ++ v) = (l ++ r) ++ v by simp, List.drop_left]
        · rw [if_neg fun z => hr2 (i1.mp z)]
          dsimp only
          rw [List.drop_left, if_neg fun z => hr2 (i2.mp z)]
    · rw [Sx_no hx, Sx_no (s := (l ++ _, _)) fun z => hx (List.IsPrefix.trans (List.prefix_append _ _) z)]
      rfl
theorem step_none {s c : Ch} (h : rcStep s c = none) (x : List Int) : (Sx s x).bind (put1 c) = none := by
  obtain ⟨l, e⟩ := s
  unfold rcStep at h
  split at h
  · rename_i hc
    dsimp only at hc
    by_cases hx : l <+: x
    · obtain ⟨u, rfl⟩ := hx
      rw [Sx_app]
      show put1 c (e ++ u) = _
      unfold put1
      rw [if_neg]
      intro z
      by_cases hl : (cutE c).1.length ≤ e.length
      · have p := List.prefix_of_prefix_length_le z (List.prefix_append e u) hl
        have := lcp_full p
        omega
      · have p := List.prefix_of_prefix_length_le (List.prefix_append e u) z (by omega)
        have := lcp_full p
        rw [lcp_sym] at this
        omega
    · rw [Sx_no hx]
      rfl
  · cases h
theorem rc_change : ∀ (cs : List Ch) (i : Nat) (s t : Ch), rc i s cs = .inr t → ∀ x, putN cs (Sx s x) = Sx t x
  | [], i, s, t, h, x => by cases h; rfl
  | c :: cs, i, s, t, h, x => by
    unfold rc at h
    split at h
    · cases h
    · rename_i s' e
      have := rc_change cs (i + 1) s' t h x
      show putN cs ((Sx s x).bind (put1 c)) = _
      rw [step_some e, this]
theorem putN_none : ∀ cs : List Ch, putN cs none = none
  | [] => rfl
  | c :: cs => putN_none cs
theorem rc_never : ∀ (cs : List Ch) (i : Nat) (s : Ch) (k : Nat), rc i s cs = .inl k → i ≤ k ∧ k - i < cs.length ∧ (∀ x, putN (cs.take (k - i + 1)) (Sx s x) = none) ∧ ∃ t, rc i s (cs.take (k - i)) = .inr t
  | [], i, s, k, h => by cases h
  | c :: cs, i, s, k, h => by
    unfold rc at h
    split at h
    · rename_i e
      cases h
      refine ⟨Nat.le_refl _, by simp, fun x => ?_, ⟨s, by simp [rc]⟩⟩
      rw [Nat.sub_self]
      show (Sx s x).bind (put1 c) = none
      exact step_none e x
    · rename_i s' e
      obtain ⟨h1, h2, h3, t, h4⟩ := rc_never cs (i + 1) s' k h
      have ek : k - i = (k - (i + 1)) + 1 := by omega
      refine ⟨by omega, by rw [List.length_cons]; omega, fun x => ?_, t, ?_⟩
      · rw [ek, List.take_succ_cons]
        show putN _ ((Sx s x).bind (put1 c)) = none
        rw [step_some e]
        exact h3 x
      · rw [ek, List.take_succ_cons]
        unfold rc
        rw [e]
        exact h4
/-- lengths -/
def Cl (n : Nat) (c : Ch) : Prop := c.1.length ≤ n ∧ c.2.length ≤ n
theorem cutE_len {n : Nat} {c : Ch} (h : Cl n c) : Cl n (cutE c) := by
  obtain ⟨h1, h2⟩ := h
  constructor
  · show (c.1.take _).length ≤ n
    rw [List.length_take]; omega
  · show (c.2.take _).length ≤ n
    rw [List.length_take]; omega
theorem step_len {n m : Nat} {s c t : Ch} (hs : Cl m s) (hc : Cl n c) (h : rcStep s c = some t) : Cl (m + n) t := by
  obtain ⟨h1, h2⟩ := hs
  obtain ⟨h3, h4⟩ := cutE_len hc
  unfold rcStep at h
  split at h
  · cases h
  · cases Option.some.inj h
    constructor
    · show (s.1 ++ (cutE c).1.drop _).length ≤ _
      rw [List.length_append, List.length_drop]; omega
    · show ((cutE c).2 ++ s.2.drop _).length ≤ _
      rw [List.length_append, List.length_drop]; omega
theorem rc_len {n : Nat} : ∀ (cs : List Ch) (i m : Nat) (s t : Ch), (∀ c ∈ cs, Cl n c) → Cl m s → rc i s cs = .inr t → Cl (m + n * cs.length) t
  | [], i, m, s, t, _, h, e => by cases e; exact h
  | c :: cs, i, m, s, t, hc, h, e => by
    unfold rc at e
    split at e
    · cases e
    · rename_i s' e'
      have := rc_len cs (i + 1) (m + n) s' t (fun d hd => hc d (List.mem_cons_of_mem _ hd)) (step_len h (hc c List.mem_cons_self) e') e
      rw [List.length_cons, Nat.mul_succ]
      exact ⟨Nat.le_trans this.1 (by omega), Nat.le_trans this.2 (by omega)⟩
theorem put1_len {n : Nat} {c : Ch} {x y : List Int} (hc : Cl n c) (h : put1 c x = some y) : y.length ≤ x.length + n := by
  have h2 := (cutE_len hc).2
  unfold put1 at h
  split at h
  · cases Option.some.inj h
    rw [List.length_append, List.length_drop]; omega
  · cases h
/-- the least cut as it is told -/
theorem lcs_snoc (a b : List Int) (x y : Int) : lcs (a ++ [x]) (b ++ [y]) = if x = y then lcs a b + 1 else 0 := by
  simp [lcs, lcp]
theorem cutE_snoc (a b : List Int) (x : Int) : cutE (a ++ [x], b ++ [x]) = cutE (a, b) := by
  unfold cutE
  dsimp only
  rw [lcs_snoc, if_pos rfl]
  have l := lcs_le a b
  simp only [List.length_append, List.length_singleton, Nat.add_sub_add_right]
  rw [List.take_append_of_le_length (by omega), List.take_append_of_le_length (by omega)]
theorem cutE_id {a b : List Int} (h : lcs a b = 0) : cutE (a, b) = (a, b) := by
  unfold cutE
  dsimp only
  rw [h]
  simp
theorem lcs_nil_l (b : List Int) : lcs [] b = 0 := by simp [lcs, lcp]
theorem lcs_nil_r (b : List Int) : lcs b [] = 0 := by cases h : b.reverse <;> simp [lcs, lcp, h]
/-- as both sides look at it -/
theorem lcp_size {o e : List Int} : (o.take (min o.length e.length) ≠ e.take (min o.length e.length)) ↔ (lcp e o < e.length ∧ lcp e o < o.length) := by
  have l := lcp_le e o
  constructor
  · intro h
    constructor
    · apply Classical.byContradiction
      intro h1
      have h2 : lcp o e = e.length := by rw [lcp_sym]; omega
      obtain ⟨r, rfl⟩ := pre_of_lcp (a := o) (b := e) h2
      apply h
      simp
    · apply Classical.byContradiction
      intro h1
      have h2 : lcp e o = o.length := by omega
      obtain ⟨r, rfl⟩ := pre_of_lcp (a := e) (b := o) h2
      apply h
      simp
  · intro h h2
    have := (lcp_pre e o (min o.length e.length) (by omega)).mpr (by rw [← h2]; exact List.take_prefix _ _)
    omega
theorem lcp_min {o e : List Int} (h : ¬ (lcp e o < e.length ∧ lcp e o < o.length)) : lcp e o = min o.length e.length := by
  have l := lcp_le e o
  omega
theorem neD_ti (x y : List Int) : neD (ti x) (ti y) = some (.im (.bool (!decide (x = y)))) := (neD_dt (α := Tup Int) (by decide) ⟨x⟩ ⟨y⟩).trans (by simp)
theorem neD_nil (x : List Int) : neD (ti x) (.tuple []) = some (.im (.bool (!decide (x = [])))) := neD_ti x []
theorem ixD_lastT (a : List Int) (x : Int) : ixD (ti (a ++ [x])) (.int (-1)) = some (.im (.int x)) := by
  unfold ixD ti; dsimp only; rw [List.map_append]; show (atI (_ ++ [_]) _).map _ = _; rw [atI_last]; rfl
theorem slD_drop (a : List Int) (x : Int) : slD (ti (a ++ [x])) none (some (-1)) = some (.im (ti a)) := by
  unfold slD ti cutD HT.sIx
  dsimp only
  rw [if_pos (by omega)]
  have e : (-1 + ((a.length : Int) + 1)).toNat = (a.map PyData.int).length := by rw [List.length_map]; omega
  simp
  rw [e, List.take_left]
/-! ### the row of changes -/
def rcD : Nat ⊕ Ch → D
  | .inl k => .tuple [.str "never", .int (k : Int)]
  | .inr t => .tuple [.str "change", ti t.1, ti t.2]
theorem eqD_tie (x y : List Int) : eqD (ti x) (ti y) = some (.im (.bool (decide (x = y)))) := eqD_ti x y
theorem ite_t {C : Rho → Ou Bool} {F G : Rho → So} {ρ ρ' : Rho} (h : C ρ = .ok true ρ') : iteS C F G ρ = F ρ' := by unfold iteS; rw [h]; rfl
theorem ite_f {C : Rho → Ou Bool} {F G : Rho → So} {ρ ρ' : Rho} (h : C ρ = .ok false ρ') : iteS C F G ρ = G ρ' := by unfold iteS; rw [h]; rfl
theorem nil_or_snoc (l : List Int) : l = [] ∨ ∃ a x, l = a ++ [x] := by
  rcases List.eq_nil_or_concat l with h | ⟨a, x, h⟩
  · exact .inl h
  · exact .inr ⟨a, x, by rw [h, List.concat_eq_append]⟩
theorem in_ints (k : Int) (is : List Int) : inDl false (.int k) (.list (is.map .int)) = some (.im (.bool (decide (k ∈ is)))) := by
  have s1 : SeqAt.shaped (.int k) = true := shaped_dt (α := Int) (by decide) k
  have s2 : SeqAt.shaped (.list (is.map .int)) = true := shaped_dt (α := List Int) (by decide) is
  unfold inDl
  dsimp only
  rw [if_pos ⟨s1, s2⟩]
  unfold inO
  rw [if_neg Bool.false_ne_true]
  have e : (is.map PyData.int).any (fun z => PyData.eqv z (.int k)) = decide (k ∈ is) := by
    have q : ∀ i : Int, PyData.eqv (.int i) (.int k) = decide (i = k) := fun i => Datum.eqv i k
    rw [Bool.eq_iff_iff, List.any_eq_true, decide_eq_true_iff]
    constructor
    · rintro ⟨z, hz, h⟩
      obtain ⟨i, hi, rfl⟩ := List.mem_map.mp hz
      rw [q, decide_eq_true_iff] at h
      rw [← h]; exact hi
    · intro h
      exact ⟨.int k, List.mem_map.mpr ⟨k, h, rfl⟩, by rw [q]; simp⟩
  rw [e]
/-- a text, or None -/
def oD : Option (List Int) → D
  | none => .none
  | some x => ti x
theorem put1_is (a b c : List Int) : put1 (b, a) c = if lcp b c < least b a then none else some (a.take (a.length - lcs b a) ++ c.drop (least b a)) := by
  have h := lcs_le b a
  have hl : least b a ≤ b.length := by unfold least; omega
  have hp := lcp_pre b c (least b a) hl
  unfold put1
  have e : (cutE (b, a)).1 = b.take (least b a) := rfl
  rw [e]
  have e2 : (cutE (b, a)).2 = a.take (a.length - lcs b a) := rfl
  rw [e2, List.length_take, show min (least b a) b.length = least b a by omega]
  by_cases hh : least b a ≤ lcp b c
  · rw [if_pos (hp.mp hh), if_neg (by omega)]
  · rw [if_neg fun z => hh (hp.mpr z), if_pos (by omega)]
end K01
/-! ### data whose repr is told -/
structure Rp (k W : Nat) (d : D) : Prop where
  ls : d.leavesShort 13 = true
  sw : d.showable = true
  hd : d.hasDict = false
  dp : d.depth ≤ k
  wg : d.weight ≤ W
theorem canStr (x : Str) (h : PyData.strOk x = true) : PyData.canLay0 (.str x) = true := by simp [PyData.canLay0, h]
theorem eqD_str {x y : Str} (hx : PyData.strOk x = true) (hy : PyData.strOk y = true) : eqD (.str x) (.str y) = some (.im (.bool (decide (x = y)))) := by
  unfold eqD
  rw [if_pos ⟨by unfold SeqAt.shaped; rw [canStr x hx]; simp [PyData.depth], by unfold SeqAt.shaped; rw [canStr y hy]; simp [PyData.depth]⟩]
  have this : PyData.eqv (.str x) (.str y) = decide (x = y) := Datum.eqv x y
  rw [this]
theorem neD_str {x y : Str} (hx : PyData.strOk x = true) (hy : PyData.strOk y = true) : neD (.str x) (.str y) = some (.im (.bool (!decide (x = y)))) := by
  unfold neD
  rw [if_pos ⟨by unfold SeqAt.shaped; rw [canStr x hx]; simp [PyData.depth], by unfold SeqAt.shaped; rw [canStr y hy]; simp [PyData.depth]⟩]
  have this : PyData.eqv (.str x) (.str y) = decide (x = y) := Datum.eqv x y
  rw [this]
theorem Lt.take {xs : List Int} (h : Lt xs) (n : Nat) : Lt (xs.take n) := fun x hx => h x (List.mem_of_mem_take hx)
theorem Lt.drop {xs : List Int} (h : Lt xs) (n : Nat) : Lt (xs.drop n) := fun x hx => h x (List.mem_of_mem_drop hx)
theorem Lt.app {xs ys : List Int} (h : Lt xs) (k : Lt ys) : Lt (xs ++ ys) := fun x hx => (List.mem_append.mp hx).elim (h x) (k x)
theorem Lt.sm {xs : List Int} (h : Lt xs) : ∀ x ∈ xs, Sm x := fun x hx => by
  have := h x hx
  show x.natAbs < 10 ^ 12
  omega
theorem Rp.mono {k l V W : Nat} {d : D} (h : Rp k V d) (h1 : k ≤ l) (h2 : V ≤ W) : Rp l W d := ⟨h.ls, h.sw, h.hd, Nat.le_trans h.dp h1, Nat.le_trans h.wg h2⟩
theorem wg_tuple (ds : List D) : (PyData.tuple ds).weight = PyData.weightAll ds := PyData.weight.eq_3 _
theorem wg_list (ds : List D) : (PyData.list ds).weight = PyData.weightAll ds := PyData.weight.eq_2 _
theorem seq_no {C : Rho → Ou Bool} {F G : Rho → So} {ρ ρ' : Rho} (h : C ρ = .ok false ρ') : seqS (iteS C F nxS) G ρ = G ρ' := by
  unfold seqS iteS
  rw [h]
  rfl
namespace K01
theorem rp_all {k W : Nat} : ∀ {ds : List D}, (∀ d ∈ ds, Rp k W d) → PyData.leavesShortAll 13 ds = true ∧ PyData.showableAll ds = true ∧ PyData.hasDictAll ds = false ∧ PyData.depthAll ds ≤ k ∧ PyData.weightAll ds ≤ (W + 1) * ds.length
  | [], _ => by simp [PyData.leavesShortAll, PyData.showableAll, PyData.hasDictAll, PyData.depthAll, PyData.weightAll]
  | x :: xs, h => by
    obtain ⟨a, b, c, d, e⟩ := h x List.mem_cons_self
    obtain ⟨i1, i2, i3, i4, i5⟩ := rp_all fun y hy => h y (List.mem_cons_of_mem _ hy)
    refine ⟨by simp [PyData.leavesShortAll, a, i1], by simp [PyData.showableAll, b, i2], by simp [PyData.hasDictAll, c, i3], by simp [PyData.depthAll]; omega, ?_⟩
    rw [PyData.weightAll, List.length_cons, Nat.mul_succ]
    omega
theorem rp_tup {k W : Nat} {ds : List D} (h : ∀ d ∈ ds, Rp k W d) : Rp (k + 1) ((W + 1) * ds.length) (.tuple ds) := by
  obtain ⟨i1, i2, i3, i4, i5⟩ := rp_all h
  exact ⟨by simpa [PyData.leavesShort] using i1, by simpa [PyData.showable] using i2, by simpa [PyData.hasDict] using i3, by rw [PyData.depth]; omega, by first | rw [wg_tuple]; exact i5 | rw [wg_list]; exact i5⟩
theorem rp_lst {k W : Nat} {ds : List D} (h : ∀ d ∈ ds, Rp k W d) : Rp (k + 1) ((W + 1) * ds.length) (.list ds) := by
  obtain ⟨i1, i2, i3, i4, i5⟩ := rp_all h
  exact ⟨by simpa [PyData.leavesShort] using i1, by simpa [PyData.showable] using i2, by simpa [PyData.hasDict] using i3, by rw [PyData.depth]; omega, by first | rw [wg_tuple]; exact i5 | rw [wg_list]; exact i5⟩
theorem rp_int {i : Int} (h : Sm i) : Rp 0 40 (.int i) :=
  ⟨by simp [PyData.leavesShort, PyData.shown_int_le h], by simp [PyData.showable, Nat.lt_trans (sm_log h) (by decide : 40 < 1920)], by simp [PyData.hasDict], by simp [PyData.depth], w_int h⟩
theorem rp_non : Rp 0 0 .none := ⟨by simp [PyData.leavesShort], by simp [PyData.showable], by simp [PyData.hasDict], by simp [PyData.depth], Nat.le_of_eq (by first | exact PyData.weight.eq_6 | exact PyData.weight.eq_5 | rfl)⟩
theorem rp_bool (b : Bool) : Rp 0 0 (.bool b) := ⟨by simp [PyData.leavesShort], by simp [PyData.showable], by simp [PyData.hasDict], by simp [PyData.depth], Nat.le_of_eq (by first | exact PyData.weight.eq_7 _ | exact PyData.weight.eq_6 _ | rfl)⟩
theorem rp_ti {xs : List Int} (h : ∀ x ∈ xs, Sm x) : Rp 1 (41 * xs.length) (ti xs) := by
  have := rp_tup (k := 0) (W := 40) (ds := xs.map .int) fun d hd => by
    obtain ⟨i, hi, rfl⟩ := List.mem_map.mp hd
    exact rp_int (h i hi)
  rw [List.length_map] at this
  exact this
theorem shw_tup {k W : Nat} {ds : List D} (h : Rp k W (.tuple ds)) (hk : k ≤ 64) (hW : W ≤ 2 ^ 20) : ∃ x, shw (.tuple ds) = some x := by
  have f : (PyData.tuple ds).shown.length ≤ sizeLine := PyData.shown_fits (B := 13) (by decide) (by decide) h.ls (Nat.le_trans h.wg hW)
  refine ⟨(PyData.tuple ds).shown, ?_⟩
  show (if (PyData.tuple ds).showable = true ∧ (PyData.tuple ds).hasDict = false ∧ (PyData.tuple ds).depth ≤ 64 ∧ (PyData.tuple ds).shown.length ≤ sizeLine then some (PyData.tuple ds).shown else none) = _
  rw [if_pos ⟨h.sw, h.hd, Nat.le_trans h.dp hk, f⟩]
theorem rp_str (x : Str) (h : x.cps.toList.all (fun c => decide (c < 16 ^ 8)) = true) : Rp 0 x.cps.size (.str x) :=
  ⟨by simpa [PyData.leavesShort] using h, by simp [PyData.showable], by simp [PyData.hasDict], by simp [PyData.depth], Nat.le_of_eq (by first | exact PyData.weight.eq_1 _ | rfl)⟩
theorem rcD_rp {r : Nat ⊕ Ch} (h : match r with | .inl k => k < 1000 | .inr t => Lt t.1 ∧ Lt t.2 ∧ t.1.length ≤ 1000 ∧ t.2.length ≤ 1000) : ∃ x, reprD [rcD r] = some (.im (.str x)) := by
  cases r with
  | inl k =>
    have h : k < 1000 := h
    have h1 : Rp 0 40 (.str "never") := (rp_str "never" (by decide)).mono (by decide) (by decide)
    have h2 : Rp 0 40 (.int (k : Int)) := rp_int (by show ((k : Int)).natAbs < 10 ^ 12; omega)
    have := rp_tup (k := 0) (W := 40) (ds := [.str "never", .int (k : Int)]) (by simp [h1, h2])
    obtain ⟨x, hx⟩ := shw_tup this (by decide) (by simp)
    exact ⟨x, reprD_of hx⟩
  | inr t =>
    obtain ⟨l1, l2, n1, n2⟩ := h
    have h1 : Rp 1 41000 (.str "change") := (rp_str "change" (by decide)).mono (by decide) (by decide)
    have h2 : Rp 1 41000 (ti t.1) := (rp_ti l1.sm).mono (by decide) (by omega)
    have h3 : Rp 1 41000 (ti t.2) := (rp_ti l2.sm).mono (by decide) (by omega)
    have := rp_tup (k := 1) (W := 41000) (ds := [.str "change", ti t.1, ti t.2]) (by simp [h1, h2, h3])
    obtain ⟨x, hx⟩ := shw_tup this (by decide) (by simp)
    exact ⟨x, reprD_of hx⟩
theorem oD_rp {t : Option (List Int)} (h : ∀ x, t = some x → (∀ i ∈ x, Sm i) ∧ x.length ≤ 10000) : ∃ x, reprD [oD t] = some (.im (.str x)) := by
  cases t with
  | none => exact ⟨_, rfl⟩
  | some x =>
    obtain ⟨h1, h2⟩ := h x rfl
    obtain ⟨y, hy⟩ := shw_tup (rp_ti h1) (by decide) (by omega)
    exact ⟨y, reprD_of hy⟩
/-! ### letters -/
def Lc (c : Ch) : Prop := Lt c.1 ∧ Lt c.2
theorem cutE_lc {c : Ch} (h : Lc c) : Lc (cutE c) := ⟨h.1.take _, h.2.take _⟩
theorem step_lc {s c t : Ch} (hs : Lc s) (hc : Lc c) (h : rcStep s c = some t) : Lc t := by
  have hq := cutE_lc hc
  unfold rcStep at h
  split at h
  · cases h
  · cases Option.some.inj h
    exact ⟨hs.1.app (hq.1.drop _), hq.2.app (hs.2.drop _)⟩
theorem rc_lc : ∀ (cs : List Ch) (i : Nat) (s t : Ch), (∀ c ∈ cs, Lc c) → Lc s → rc i s cs = .inr t → Lc t
  | [], i, s, t, _, h, e => by cases e; exact h
  | c :: cs, i, s, t, hc, h, e => by
    unfold rc at e
    split at e
    · cases e
    · rename_i s' e'
      exact rc_lc cs (i + 1) s' t (fun d hd => hc d (List.mem_cons_of_mem _ hd)) (step_lc h (hc c List.mem_cons_self) e') e
theorem lcL_no {T : Tg} {C : Rho → Ou Bool} {E : Rho → Ou Rs} {vs : List Nat} {ρ : Rho} : ∀ (ds acc : List D), (∀ d ∈ ds, ∃ ρ1 ρ2, T d ρ = some ρ1 ∧ C ρ1 = .ok false ρ2 ∧ plainAt ρ2 vs = true ∧ wipeR ρ2 vs = ρ) → lcL T C E vs ds acc ρ = .ok acc ρ
  | [], acc, _ => rfl
  | d :: ds, acc, h => by
    obtain ⟨ρ1, ρ2, e1, e2, e3, e4⟩ := h d List.mem_cons_self
    unfold lcL
    rw [e1]
    simp only [e2, bdn, Bool.false_eq_true, if_false]
    rw [if_pos e3, e4]
    exact lcL_no ds acc fun c hc => h c (List.mem_cons_of_mem _ hc)
structure Go (cs : List Ch) : Prop where
  lc : ∀ c ∈ cs, Lc c
  cl : ∀ c ∈ cs, Cl 30 c
  n : cs.length ≤ 10
theorem Go.take {cs : List Ch} (h : Go cs) (k : Nat) : Go (cs.take k) := ⟨fun c hc => h.lc c (List.mem_of_mem_take hc), fun c hc => h.cl c (List.mem_of_mem_take hc), by have := h.n; rw [List.length_take]; omega⟩
theorem eqS_nn : eqD (.str "never") (.str "never") = some (.im (.bool true)) := (eqD_str (by decide +kernel) (by decide +kernel)).trans (by rw [decide_eq_true rfl])
theorem eqS_cn : eqD (.str "change") (.str "never") = some (.im (.bool false)) := (eqD_str (by decide +kernel) (by decide +kernel)).trans (by rw [decide_eq_false (by decide +kernel)])
theorem eqS_cc : eqD (.str "change") (.str "change") = some (.im (.bool true)) := (eqD_str (by decide +kernel) (by decide +kernel)).trans (by rw [decide_eq_true rfl])
theorem neS_cc : neD (.str "change") (.str "change") = some (.im (.bool false)) := (neD_str (by decide +kernel) (by decide +kernel)).trans (by rw [decide_eq_true rfl]; rfl)
theorem sl_but (t : List Int) : ∃ y : List Int, slD (ti t) none (some ((t.length : Int) - 1)) = some (.im (ti y)) ∧ y.length ≤ t.length ∧ (Lt t → Lt y) := by
  rcases nil_or_snoc t with rfl | ⟨a, x, rfl⟩
  · exact ⟨[], rfl, Nat.le_refl _, id⟩
  · refine ⟨a, ?_, by simp, fun h => ?_⟩
    · have e : (((a ++ [x]).length : Nat) : Int) - 1 = (a.length : Nat) := by simp
      rw [e, sl_to (by simp)]
      simp
    · intro z hz
      exact h z (List.mem_append_left _ hz)
def nexts (xs : List (List Int)) : List (List Int) := xs.flatMap fun t => [t ++ [3], t ++ [47]]
/-- a list that is the slot's, or data -/
def Ls (y : Sl) (ds : List D) : Prop := y = .ow false ds ∨ y = .im (.list ds)
theorem Ls.np {y : Sl} {ds : List D} (h : Ls y ds) : np y = false := by rcases h with rfl | rfl <;> rfl
theorem nexts_len (xs : List (List Int)) : (nexts xs).length = 2 * xs.length := by
  induction xs with
  | nil => rfl
  | cons x xs ih =>
    have : nexts (x :: xs) = [x ++ [3], x ++ [47]] ++ nexts xs := by simp [nexts]
    rw [this, List.length_append, ih]
    simp
    omega
theorem nexts_in {xs : List (List Int)} {n : Nat} (h : ∀ x ∈ xs, x.length ≤ n ∧ Lt x) : ∀ x ∈ nexts xs, x.length ≤ n + 1 ∧ Lt x := by
  intro x hx
  obtain ⟨t, ht, h1⟩ := List.mem_flatMap.mp hx
  obtain ⟨h2, h3⟩ := h t ht
  simp only [List.mem_cons, List.not_mem_nil, or_false] at h1
  rcases h1 with rfl | rfl
  · exact ⟨by simp; omega, h3.app fun z hz => by simp at hz; omega⟩
  · exact ⟨by simp; omega, h3.app fun z hz => by simp at hz; omega⟩
/-! ### merges by cuts -/
def M (b m y : List Int) : Option (List Int) := put1 (b, m) y
def Cut (b m y c : List Int) : Prop := ∃ u v p q, b = u ++ v ∧ m = p ++ v ∧ y = u ++ q ∧ c = p ++ q
theorem M_cut {b m y c : List Int} (h : M b m y = some c) : Cut b m y c := by
  unfold M at h
  rw [put1_is] at h
  have hl := lcs_le b m
  have hle : least b m ≤ b.length := by unfold least; omega
  split at h
  · cases h
  · rename_i hc
    cases Option.some.inj h
    refine ⟨b.take (least b m), b.drop (least b m), m.take (m.length - lcs b m), y.drop (least b m), (List.take_append_drop _ _).symm, ?_, ?_, rfl⟩
    · have := lcs_drop b m
      show m = m.take (m.length - lcs b m) ++ b.drop (b.length - lcs b m)
      rw [this, List.take_append_drop]
    · have hp := (lcp_pre b y (least b m) hle).mp (by omega)
      obtain ⟨r, hr⟩ := hp
      have e : (b.take (least b m)).length = least b m := by rw [List.length_take]; omega
      have : y.drop (least b m) = r := by rw [← hr, ← e]; simp
      rw [this]
      exact hr.symm
theorem cut_M {b m y c : List Int} (h : Cut b m y c) : M b m y = some c := by
  obtain ⟨u, v, p, q, rfl, rfl, rfl, rfl⟩ := h
  have h1 : v.length ≤ lcs (u ++ v) (p ++ v) := lcs_max (u ++ v) (p ++ v) v.length (by simp) (by simp)
  have h2 : u.length ≤ lcp (u ++ v) (u ++ q) := (lcp_pre (u ++ v) (u ++ q) u.length (by simp)).mpr (by simp)
  have hl := lcs_le (u ++ v) (p ++ v)
  have hd := lcs_drop (u ++ v) (p ++ v)
  unfold M
  rw [put1_is, if_neg (by unfold least; simp only [List.length_append]; omega)]
  unfold least
  obtain ⟨k, hk⟩ : ∃ k, lcs (u ++ v) (p ++ v) = v.length + k := ⟨_, (Nat.add_sub_cancel' h1).symm⟩
  rw [hk] at hd hl ⊢
  simp only [List.length_append] at hd hl ⊢
  have e1 : u.length + v.length - (v.length + k) = u.length - k := by omega
  have e2 : p.length + v.length - (v.length + k) = p.length - k := by omega
  rw [e1, e2] at hd ⊢
  rw [List.drop_append_of_le_length (by omega), List.drop_append_of_le_length (by omega)] at hd
  have hd2 := List.append_cancel_right hd
  rw [List.take_append_of_le_length (by omega), List.drop_append_of_le_length (by omega), hd2, ← List.append_assoc, List.take_append_drop]
/-- the other corners -/
theorem corner1 {c y m b : List Int} (h : M c y m = some b) : M b m y = some c := by
  obtain ⟨u, v, p, q, rfl, rfl, rfl, rfl⟩ := M_cut h
  exact cut_M ⟨p, q, u, v, rfl, rfl, rfl, rfl⟩
theorem corner2 {y c b m : List Int} (h : M y c b = some m) : M b m y = some c := by
  obtain ⟨u, v, p, q, rfl, rfl, rfl, rfl⟩ := M_cut h
  exact cut_M ⟨u, q, p, v, rfl, rfl, rfl, rfl⟩
theorem corner3 {m b c y : List Int} (h : M m b c = some y) : M b m y = some c := by
  obtain ⟨u, v, p, q, rfl, rfl, rfl, rfl⟩ := M_cut h
  exact cut_M ⟨p, v, u, q, rfl, rfl, rfl, rfl⟩
theorem back1 {b m y c : List Int} (h : M b m y = some c) : M c y m = some b := by
  obtain ⟨u, v, p, q, rfl, rfl, rfl, rfl⟩ := M_cut h
  exact cut_M ⟨p, q, u, v, rfl, rfl, rfl, rfl⟩
theorem back2 {b m y c : List Int} (h : M b m y = some c) : M y c b = some m := by
  obtain ⟨u, v, p, q, rfl, rfl, rfl, rfl⟩ := M_cut h
  exact cut_M ⟨u, q, p, v, rfl, rfl, rfl, rfl⟩
theorem back3 {b m y c : List Int} (h : M b m y = some c) : M m b c = some y := by
  obtain ⟨u, v, p, q, rfl, rfl, rfl, rfl⟩ := M_cut h
  exact cut_M ⟨p, v, u, q, rfl, rfl, rfl, rfl⟩
/-! ### words that are struck to one and the same -/
def inv (w : Wd) : Wd := (w.map fun p => (p.1, -p.2)).reverse
def Red : Wd → Prop
  | p :: q :: r => ¬ (q.1 = p.1 ∧ q.2 ≠ p.2) ∧ Red (q :: r)
  | _ => True
theorem Red.tail {p : Int × Int} {r : Wd} (h : Red (p :: r)) : Red r := by
  cases r with
  | nil => exact True.intro
  | cons q r => exact h.2
theorem push_red {st : Wd} {p : Int × Int} (h : Red st) : Red (push st p) := by
  cases st with
  | nil => exact True.intro
  | cons q r =>
    unfold push
    dsimp only
    split
    · exact h.tail
    · rename_i hc; exact ⟨hc, h⟩
theorem push_inv {st : Wd} {p : Int × Int} (h : Red st) (g : Sgn st) (hp : p.2 = 1 ∨ p.2 = -1) : push (push st p) (p.1, -p.2) = st := by
  cases st with
  | nil =>
    show (if p.1 = p.1 ∧ p.2 ≠ -p.2 then ([] : Wd) else _) = _
    rw [if_pos ⟨rfl, by omega⟩]
  | cons q r =>
    have hq := g q List.mem_cons_self
    by_cases hc : q.1 = p.1 ∧ q.2 ≠ p.2
    · have e : push (q :: r) p = r := if_pos hc
      have eq : q = (p.1, -p.2) := by
        obtain ⟨q1, q2⟩ := q
        obtain ⟨h1, h2⟩ := hc
        dsimp only at h1 h2 hq
        rw [h1, show q2 = -p.2 by omega]
      rw [e, ← eq]
      cases r with
      | nil => rfl
      | cons t r => exact if_neg h.1
    · have e : push (q :: r) p = p :: q :: r := if_neg hc
      rw [e]
      exact if_pos ⟨rfl, by show p.2 ≠ -p.2; omega⟩
theorem run_red : ∀ (w st : Wd), Red st → Red (w.foldl push st)
  | [], _, h => h
  | _ :: w, _, h => run_red w _ (push_red h)
theorem run_inv : ∀ (w st : Wd), Red st → Sgn st → Sgn w → (w ++ inv w).foldl push st = st
  | [], st, _, _, _ => rfl
  | p :: w, st, h, g, gw => by
    have hp := gw p List.mem_cons_self
    have e : (p :: w) ++ inv (p :: w) = p :: ((w ++ inv w) ++ [(p.1, -p.2)]) := by simp [inv]
    rw [e, List.foldl_cons, List.foldl_append, run_inv w (push st p) (push_red h) (push_sgn g hp) (fun q hq => gw q (List.mem_cons_of_mem _ hq))]
    exact push_inv h g hp
def Eqv (x y : Wd) : Prop := ∀ st, Red st → Sgn st → x.foldl push st = y.foldl push st
theorem Eqv.refl (x : Wd) : Eqv x x := fun _ _ _ => rfl
theorem Eqv.trans {x y z : Wd} (h : Eqv x y) (k : Eqv y z) : Eqv x z := fun st a b => (h st a b).trans (k st a b)
theorem Eqv.mid {x y : Wd} (h : Eqv x y) (u v : Wd) (gu : Sgn u) : Eqv (u ++ x ++ v) (u ++ y ++ v) := fun st a b => by
  rw [List.foldl_append, List.foldl_append, List.foldl_append, List.foldl_append, h _ (run_red u st a) (run_sgn u st b gu)]
theorem eqv_inv {w : Wd} (g : Sgn w) : Eqv (w ++ inv w) [] := fun st a b => run_inv w st a b g
theorem inv_pl (x : List Int) : inv (pl x) = mi x := by simp [inv, pl, mi, List.map_reverse]
theorem inv_mi (x : List Int) : inv (mi x) = pl x := by simp [inv, pl, mi, List.map_reverse]
theorem pl_app (x y : List Int) : pl (x ++ y) = pl x ++ pl y := by simp [pl]
theorem mi_app (x y : List Int) : mi (x ++ y) = mi y ++ mi x := by simp [mi]
theorem c_pm (x : List Int) : Eqv (pl x ++ mi x) [] := by rw [← inv_pl]; exact eqv_inv (pl_sgn x)
theorem c_mp (x : List Int) : Eqv (mi x ++ pl x) [] := by
  have := eqv_inv (mi_sgn x)
  rw [inv_mi] at this
  exact this
theorem Sgn.app {x y : Wd} (h : Sgn x) (k : Sgn y) : Sgn (x ++ y) := fun p hp => (List.mem_append.mp hp).elim (h p) (k p)
theorem cut_plus {b m y c : List Int} (h : Cut b m y c) : Eqv (pl m ++ mi b ++ pl y) (pl c) := by
  obtain ⟨u, v, p, q, rfl, rfl, rfl, rfl⟩ := h
  rw [pl_app, mi_app, pl_app, pl_app]
  have e1 := (c_pm v).mid (pl p) (mi u ++ pl u ++ pl q) (pl_sgn p)
  have e2 := (c_mp u).mid (pl p) (pl q) (pl_sgn p)
  simp only [List.append_assoc, List.append_nil, List.nil_append] at e1 e2 ⊢
  exact e1.trans e2
theorem cut_minus {c d b i : List Int} (h : Cut c d b i) : Eqv (mi b ++ pl c ++ mi d) (mi i) := by
  obtain ⟨u, v, p, q, rfl, rfl, rfl, rfl⟩ := h
  rw [mi_app, pl_app, mi_app, mi_app]
  have e1 := (c_mp u).mid (mi q) (pl v ++ mi v ++ mi p) (mi_sgn q)
  have e2 := (c_pm v).mid (mi q) (mi p) (mi_sgn q)
  simp only [List.append_assoc, List.append_nil, List.nil_append] at e1 e2 ⊢
  exact e1.trans e2
/-- the text that a struck word is -/
def txtO (w : Wd) : Option (List Int) := if (-1 : Int) ∈ w.map Prod.snd then none else some (w.map Prod.fst)
theorem strike_eqv {x y : Wd} (h : Eqv x y) : strike x = strike y := by
  unfold strike
  rw [h [] True.intro (fun _ z => nomatch z)]
theorem key3 (a b c : List Int) : (∃ xs, put1 (b, a) c = some xs ∧ strike (pl a ++ mi b ++ pl c) = pl xs) ∨ (put1 (b, a) c = none ∧ (-1 : Int) ∈ (strike (pl a ++ mi b ++ pl c)).map Prod.snd) := by
  rw [put1_is]
  by_cases hc : lcp b c < least b a
  · right
    rw [if_pos hc]
    refine ⟨rfl, ?_⟩
    rw [strike_clash hc]
    have hl : least b a ≤ b.length := by unfold least; omega
    have : ((b.take (least b a)).drop (grt b c)) ≠ [] := by
      intro z
      have := congrArg List.length z
      rw [List.length_drop, List.length_take] at this
      have : grt b c = lcp b c := rfl
      simp at *
      omega
    obtain ⟨y, ys, hy⟩ := List.exists_cons_of_ne_nil this
    rw [hy]
    simp [mi]
  · left
    rw [if_neg hc]
    refine ⟨_, rfl, ?_⟩
    rw [strike_go (by show least b a ≤ lcp b c; omega)]
    simp [pl]
theorem pl_fst (xs : List Int) : (pl xs).map Prod.fst = xs := by
  unfold pl
  rw [List.map_map]
  exact (List.map_congr_left (fun _ _ => rfl)).trans (List.map_id xs)
theorem txt_pl (xs : List Int) : txtO (pl xs) = some xs := by
  unfold txtO
  rw [if_neg (by simp [pl]), pl_fst]
theorem txt_M (b m y : List Int) : txtO (strike (pl m ++ mi b ++ pl y)) = M b m y := by
  rcases key3 m b y with ⟨xs, e1, e2⟩ | ⟨e1, e2⟩
  · rw [e2, txt_pl]; exact e1.symm
  · unfold txtO
    rw [if_pos e2]
    exact e1.symm
def five (a b c d e : List Int) : Wd := pl a ++ mi b ++ pl c ++ mi d ++ pl e
theorem way1 {a b c d e i : List Int} (h : M b a c = some i) : txtO (strike (five a b c d e)) = M d i e := by
  rw [← txt_M, strike_eqv]
  have := (cut_plus (M_cut h)).mid [] (mi d ++ pl e) (fun _ z => nomatch z)
  simp only [five, List.nil_append, List.append_assoc] at this ⊢
  exact this
theorem way2 {a b c d e i : List Int} (h : M d c e = some i) : txtO (strike (five a b c d e)) = M b a i := by
  rw [← txt_M, strike_eqv]
  have := (cut_plus (M_cut h)).mid (pl a ++ mi b) [] (Sgn.app (pl_sgn a) (mi_sgn b))
  simp only [five, List.append_nil, List.append_assoc] at this ⊢
  exact this
theorem way3 {a b c d e i : List Int} (h : M c d b = some i) : txtO (strike (five a b c d e)) = M i a e := by
  rw [← txt_M, strike_eqv]
  have := (cut_minus (M_cut h)).mid (pl a) (pl e) (pl_sgn a)
  simp only [five, List.append_assoc] at this ⊢
  exact this
end K01
end VL

namespace VL
open PySem PySem.Spec PyProof.Rows L2
open PySem.W (Datum Tup)

namespace K01
/-! ### words -/
def sl1 (d : D) : Option P2 := match isSeq d with
  | some [.int a, .int b] => if 0 ≤ a ∧ a < 100 ∧ (b = 1 ∨ b = -1) then some (a, b) else none
  | _ => none
theorem sl1_pr {p : P2} (h : 0 ≤ p.1 ∧ p.1 < 100 ∧ (p.2 = 1 ∨ p.2 = -1)) : sl1 (pr p) = some p := by
  show (if 0 ≤ p.1 ∧ p.1 < 100 ∧ (p.2 = 1 ∨ p.2 = -1) then some (p.1, p.2) else none) = _
  rw [if_pos h]
theorem sl1_lp {p : P2} (h : 0 ≤ p.1 ∧ p.1 < 100 ∧ (p.2 = 1 ∨ p.2 = -1)) : sl1 (.list [.int p.1, .int p.2]) = some p := by
  show (if 0 ≤ p.1 ∧ p.1 < 100 ∧ (p.2 = 1 ∨ p.2 = -1) then some (p.1, p.2) else none) = _
  rw [if_pos h]
theorem sl1_at {d : D} {p : P2} (h : sl1 d = some p) : isSeq d = some [.int p.1, .int p.2] ∧ 0 ≤ p.1 ∧ p.1 < 100 ∧ (p.2 = 1 ∨ p.2 = -1) := by
  unfold sl1 at h
  split at h
  · rename_i a b e
    split at h
    · rename_i c
      cases h
      exact ⟨e, c⟩
    · cases h
  · cases h
theorem v_sl (d : D) (ρ : Rho) : foE 1 m_is_signed_letter [d] ρ = .ok (.im (.bool (sl1 d).isSome)) ρ := by
  refine foE_of ?_ rfl ρ
  have r := v_is_row_of d 2
  unfold G_is_signed_letter
  cases h : isSeq d with
  | none => rw [h] at r; simp [retS, seqS, asgS, clF, clI, clKF, isOw, consD, consF, callF, call1, drs, opF, op2, unF, op1, varF, cF, nilD, nilF, bd, bs, frz, dr, fin, dat, setN, pin_0, pin_s, np_im, np_un, np_ow, iteS, tstF, blO, nxS, dropS, mutF, mutO, thaw, tupF, lstF, tupD, lstD, andF, orF, notF, andV, orV, notV, ifF, tgS, tupU, consT, nameT, nilT, parS, slF, noO, parO, intO, slO, isnD, unS, out, retV, negD, subD, intD, unF, op1, truF, truO, tru, parN, consL, addL, nilL, parM, setL, slOf, nrm, two, ltD, gtD, leD, geD, r, sl1, h]
  | some ds =>
    rw [h] at r
    match ds, h, r with
    | [], h, r => simp [retS, seqS, asgS, clF, clI, clKF, isOw, consD, consF, callF, call1, drs, opF, op2, unF, op1, varF, cF, nilD, nilF, bd, bs, frz, dr, fin, dat, setN, pin_0, pin_s, np_im, np_un, np_ow, iteS, tstF, blO, nxS, dropS, mutF, mutO, thaw, tupF, lstF, tupD, lstD, andF, orF, notF, andV, orV, notV, ifF, tgS, tupU, consT, nameT, nilT, parS, slF, noO, parO, intO, slO, isnD, unS, out, retV, negD, subD, intD, unF, op1, truF, truO, tru, parN, consL, addL, nilL, parM, setL, slOf, nrm, two, ltD, gtD, leD, geD, r, sl1, h]
    | [a], h, r => simp [retS, seqS, asgS, clF, clI, clKF, isOw, consD, consF, callF, call1, drs, opF, op2, unF, op1, varF, cF, nilD, nilF, bd, bs, frz, dr, fin, dat, setN, pin_0, pin_s, np_im, np_un, np_ow, iteS, tstF, blO, nxS, dropS, mutF, mutO, thaw, tupF, lstF, tupD, lstD, andF, orF, notF, andV, orV, notV, ifF, tgS, tupU, consT, nameT, nilT, parS, slF, noO, parO, intO, slO, isnD, unS, out, retV, negD, subD, intD, unF, op1, truF, truO, tru, parN, consL, addL, nilL, parM, setL, slOf, nrm, two, ltD, gtD, leD, geD, r, sl1, h]
    | a :: b :: c :: ds, h, r =>
      have : ¬ ((ds.length : Int) + 1 + 1 + 1 = 2) := by omega
      simp [retS, seqS, asgS, clF, clI, clKF, isOw, consD, consF, callF, call1, drs, opF, op2, unF, op1, varF, cF, nilD, nilF, bd, bs, frz, dr, fin, dat, setN, pin_0, pin_s, np_im, np_un, np_ow, iteS, tstF, blO, nxS, dropS, mutF, mutO, thaw, tupF, lstF, tupD, lstD, andF, orF, notF, andV, orV, notV, ifF, tgS, tupU, consT, nameT, nilT, parS, slF, noO, parO, intO, slO, isnD, unS, out, retV, negD, subD, intD, unF, op1, truF, truO, tru, parN, consL, addL, nilL, parM, setL, slOf, nrm, two, ltD, gtD, leD, geD, r, sl1, h, this]
    | [a, b], h, r =>
      obtain ⟨x0, x1⟩ := ix_row h
      have l := v_is_letter a
      have i := v_is_integer b
      have t : ∀ j : Int, inTD (.int j) (.tuple [.int 1, .int (-1)]) = some (.im (.bool (decide (j = 1 ∨ j = -1)))) := fun j => by
        simp [inTD, iOf]
      cases a with
      | int x =>
        cases b with
        | int y =>
          have i : ∀ (y : Int) ρ, foE 1 m_is_integer [.int y] ρ = .ok (.im (.bool true)) ρ := fun y => v_is_integer (.int y)
          by_cases c0 : 0 ≤ x <;> by_cases c1 : x < 100 <;> by_cases c2 : y = 1 <;> by_cases c3 : y = -1 <;> simp [retS, seqS, asgS, clF, clI, clKF, isOw, consD, consF, callF, call1, drs, opF, op2, unF, op1, varF, cF, nilD, nilF, bd, bs, frz, dr, fin, dat, setN, pin_0, pin_s, np_im, np_un, np_ow, iteS, tstF, blO, nxS, dropS, mutF, mutO, thaw, tupF, lstF, tupD, lstD, andF, orF, notF, andV, orV, notV, ifF, tgS, tupU, consT, nameT, nilT, parS, slF, noO, parO, intO, slO, isnD, unS, out, retV, negD, subD, intD, unF, op1, truF, truO, tru, parN, consL, addL, nilL, parM, setL, slOf, nrm, two, ltD, gtD, leD, geD, r, sl1, h, x0, x1, l, i, isLet, sizeLine_eq, t, c0, c1, c2, c3]
        | none =>
          have i : ∀ ρ, foE 1 m_is_integer [.none] ρ = .ok (.im (.bool false)) ρ := v_is_integer .none
          by_cases c0 : 0 ≤ x <;> by_cases c1 : x < 100 <;> simp [retS, seqS, asgS, clF, clI, clKF, isOw, consD, consF, callF, call1, drs, opF, op2, unF, op1, varF, cF, nilD, nilF, bd, bs, frz, dr, fin, dat, setN, pin_0, pin_s, np_im, np_un, np_ow, iteS, tstF, blO, nxS, dropS, mutF, mutO, thaw, tupF, lstF, tupD, lstD, andF, orF, notF, andV, orV, notV, ifF, tgS, tupU, consT, nameT, nilT, parS, slF, noO, parO, intO, slO, isnD, unS, out, retV, negD, subD, intD, unF, op1, truF, truO, tru, parN, consL, addL, nilL, parM, setL, slOf, nrm, two, ltD, gtD, leD, geD, r, sl1, h, x0, x1, l, i, isLet, c0, c1]
        | bool z =>
          have i : ∀ ρ, foE 1 m_is_integer [.bool z] ρ = .ok (.im (.bool false)) ρ := v_is_integer (.bool z)
          by_cases c0 : 0 ≤ x <;> by_cases c1 : x < 100 <;> simp [retS, seqS, asgS, clF, clI, clKF, isOw, consD, consF, callF, call1, drs, opF, op2, unF, op1, varF, cF, nilD, nilF, bd, bs, frz, dr, fin, dat, setN, pin_0, pin_s, np_im, np_un, np_ow, iteS, tstF, blO, nxS, dropS, mutF, mutO, thaw, tupF, lstF, tupD, lstD, andF, orF, notF, andV, orV, notV, ifF, tgS, tupU, consT, nameT, nilT, parS, slF, noO, parO, intO, slO, isnD, unS, out, retV, negD, subD, intD, unF, op1, truF, truO, tru, parN, consL, addL, nilL, parM, setL, slOf, nrm, two, ltD, gtD, leD, geD, r, sl1, h, x0, x1, l, i, isLet, c0, c1]
        | str z =>
          have i : ∀ ρ, foE 1 m_is_integer [.str z] ρ = .ok (.im (.bool false)) ρ := v_is_integer (.str z)
          by_cases c0 : 0 ≤ x <;> by_cases c1 : x < 100 <;> simp [retS, seqS, asgS, clF, clI, clKF, isOw, consD, consF, callF, call1, drs, opF, op2, unF, op1, varF, cF, nilD, nilF, bd, bs, frz, dr, fin, dat, setN, pin_0, pin_s, np_im, np_un, np_ow, iteS, tstF, blO, nxS, dropS, mutF, mutO, thaw, tupF, lstF, tupD, lstD, andF, orF, notF, andV, orV, notV, ifF, tgS, tupU, consT, nameT, nilT, parS, slF, noO, parO, intO, slO, isnD, unS, out, retV, negD, subD, intD, unF, op1, truF, truO, tru, parN, consL, addL, nilL, parM, setL, slOf, nrm, two, ltD, gtD, leD, geD, r, sl1, h, x0, x1, l, i, isLet, c0, c1]
        | list z =>
          have i : ∀ ρ, foE 1 m_is_integer [.list z] ρ = .ok (.im (.bool false)) ρ := v_is_integer (.list z)
          by_cases c0 : 0 ≤ x <;> by_cases c1 : x < 100 <;> simp [retS, seqS, asgS, clF, clI, clKF, isOw, consD, consF, callF, call1, drs, opF, op2, unF, op1, varF, cF, nilD, nilF, bd, bs, frz, dr, fin, dat, setN, pin_0, pin_s, np_im, np_un, np_ow, iteS, tstF, blO, nxS, dropS, mutF, mutO, thaw, tupF, lstF, tupD, lstD, andF, orF, notF, andV, orV, notV, ifF, tgS, tupU, consT, nameT, nilT, parS, slF, noO, parO, intO, slO, isnD, unS, out, retV, negD, subD, intD, unF, op1, truF, truO, tru, parN, consL, addL, nilL, parM, setL, slOf, nrm, two, ltD, gtD, leD, geD, r, sl1, h, x0, x1, l, i, isLet, c0, c1]
        | tuple z =>
          have i : ∀ ρ, foE 1 m_is_integer [.tuple z] ρ = .ok (.im (.bool false)) ρ := v_is_integer (.tuple z)
          by_cases c0 : 0 ≤ x <;> by_cases c1 : x < 100 <;> simp [retS, seqS, asgS, clF, clI, clKF, isOw, consD, consF, callF, call1, drs, opF, op2, unF, op1, varF, cF, nilD, nilF, bd, bs, frz, dr, fin, dat, setN, pin_0, pin_s, np_im, np_un, np_ow, iteS, tstF, blO, nxS, dropS, mutF, mutO, thaw, tupF, lstF, tupD, lstD, andF, orF, notF, andV, orV, notV, ifF, tgS, tupU, consT, nameT, nilT, parS, slF, noO, parO, intO, slO, isnD, unS, out, retV, negD, subD, intD, unF, op1, truF, truO, tru, parN, consL, addL, nilL, parM, setL, slOf, nrm, two, ltD, gtD, leD, geD, r, sl1, h, x0, x1, l, i, isLet, c0, c1]
        | dict z =>
          have i : ∀ ρ, foE 1 m_is_integer [.dict z] ρ = .ok (.im (.bool false)) ρ := v_is_integer (.dict z)
          by_cases c0 : 0 ≤ x <;> by_cases c1 : x < 100 <;> simp [retS, seqS, asgS, clF, clI, clKF, isOw, consD, consF, callF, call1, drs, opF, op2, unF, op1, varF, cF, nilD, nilF, bd, bs, frz, dr, fin, dat, setN, pin_0, pin_s, np_im, np_un, np_ow, iteS, tstF, blO, nxS, dropS, mutF, mutO, thaw, tupF, lstF, tupD, lstD, andF, orF, notF, andV, orV, notV, ifF, tgS, tupU, consT, nameT, nilT, parS, slF, noO, parO, intO, slO, isnD, unS, out, retV, negD, subD, intD, unF, op1, truF, truO, tru, parN, consL, addL, nilL, parM, setL, slOf, nrm, two, ltD, gtD, leD, geD, r, sl1, h, x0, x1, l, i, isLet, c0, c1]
      | _ => simp [retS, seqS, asgS, clF, clI, clKF, isOw, consD, consF, callF, call1, drs, opF, op2, unF, op1, varF, cF, nilD, nilF, bd, bs, frz, dr, fin, dat, setN, pin_0, pin_s, np_im, np_un, np_ow, iteS, tstF, blO, nxS, dropS, mutF, mutO, thaw, tupF, lstF, tupD, lstD, andF, orF, notF, andV, orV, notV, ifF, tgS, tupU, consT, nameT, nilT, parS, slF, noO, parO, intO, slO, isnD, unS, out, retV, negD, subD, intD, unF, op1, truF, truO, tru, parN, consL, addL, nilL, parM, setL, slOf, nrm, two, ltD, gtD, leD, geD, r, sl1, h, x0, x1, l, isLet]
/-- d is this word -/
def isW (d : D) (w : Wd) : Prop := ∃ ds, isSeq d = some ds ∧ ds.map sl1 = w.map some
def badW (d : D) : Prop := isSeq d = none ∨ ∃ ds, isSeq d = some ds ∧ ∃ e ∈ ds, sl1 e = none
abbrev Lw (w : Wd) : Prop := ∀ p ∈ w, 0 ≤ p.1 ∧ p.1 < 100 ∧ (p.2 = 1 ∨ p.2 = -1)
theorem isW_wt {w : Wd} (h : Lw w) : isW (wt w) w := ⟨w.map pr, rfl, by
  rw [List.map_map]
  exact List.map_congr_left fun p hp => sl1_pr (h p hp)⟩
theorem isW_wl {w : Wd} (h : Lw w) : isW (wl w) w := ⟨w.map pr, rfl, by
  rw [List.map_map]
  exact List.map_congr_left fun p hp => sl1_pr (h p hp)⟩
theorem isW_ll {w : Wd} (h : Lw w) : isW (.list (w.map fun p => .list [.int p.1, .int p.2])) w := ⟨_, rfl, by
  rw [List.map_map]
  exact List.map_congr_left fun p hp => sl1_lp (h p hp)⟩
abbrev b_nw : Rho → So := iteS (notF (tstF (clF 1 m_is_signed_letter (consD (varF 2) nilD)))) (rseS 1 (consD (varF 1) nilD)) nxS
theorem l_nw (d k : D) : ∀ (ds : List D) (w : Wd) (y : Sl), Fr y → ds.map sl1 = w.map some → ∃ y', Fr y' ∧ forL (nameT 2) b_nw ds [.im d, .im k, y] = .nx [.im d, .im k, y']
  | [], _, y, hy, _ => ⟨y, hy, rfl⟩
  | e :: ds, [], y, hy, h => by cases h
  | e :: ds, p :: w, y, hy, h => by
    have h1 : sl1 e = some p := (List.cons.inj h).1
    obtain ⟨y', hy', q⟩ := l_nw d k ds w (.im e) fr_im (List.cons.inj h).2
    refine ⟨y', hy', ?_⟩
    have hn : nameT 2 e [.im d, .im k, y] = some [.im d, .im k, .im e] := by rcases hy with rfl | ⟨z, rfl⟩ <;> rfl
    have hb : b_nw [.im d, .im k, .im e] = .nx [.im d, .im k, .im e] := by simp [retS, seqS, asgS, clF, clI, clKF, isOw, consD, consF, callF, call1, drs, opF, op2, unF, op1, varF, cF, nilD, nilF, bd, bs, frz, dr, fin, dat, setN, pin_0, pin_s, np_im, np_un, np_ow, iteS, tstF, blO, nxS, dropS, mutF, mutO, thaw, tupF, lstF, tupD, lstD, andF, orF, notF, andV, orV, notV, ifF, tgS, tupU, consT, nameT, nilT, parS, slF, noO, parO, intO, slO, isnD, unS, out, retV, negD, subD, intD, unF, op1, truF, truO, tru, parN, consL, addL, nilL, parM, setL, slOf, nrm, two, ltD, gtD, leD, geD, v_sl, h1]
    rw [forL_cons hn, hb]
    exact q
theorem l_nwx (d k : D) : ∀ (ds : List D) (y : Sl), Fr y → (∃ e ∈ ds, sl1 e = none) → ∃ ρ', forL (nameT 2) b_nw ds [.im d, .im k, y] = .ex 1 k ρ'
  | [], y, hy, h => by obtain ⟨e, he, _⟩ := h; cases he
  | e :: ds, y, hy, h => by
    have hn : nameT 2 e [.im d, .im k, y] = some [.im d, .im k, .im e] := by rcases hy with rfl | ⟨z, rfl⟩ <;> rfl
    cases h1 : sl1 e with
    | none =>
      have hb : b_nw [.im d, .im k, .im e] = .ex 1 k [.im d, .im k, .im e] := by simp [retS, seqS, asgS, clF, clI, clKF, isOw, consD, consF, callF, call1, drs, opF, op2, unF, op1, varF, cF, nilD, nilF, bd, bs, frz, dr, fin, dat, setN, pin_0, pin_s, np_im, np_un, np_ow, iteS, tstF, blO, nxS, dropS, mutF, mutO, thaw, tupF, lstF, tupD, lstD, andF, orF, notF, andV, orV, notV, ifF, tgS, tupU, consT, nameT, nilT, parS, slF, noO, parO, intO, slO, isnD, unS, out, retV, negD, subD, intD, unF, op1, truF, truO, tru, parN, consL, addL, nilL, parM, setL, slOf, nrm, two, ltD, gtD, leD, geD, v_sl, h1, rseS, rseO]
      exact ⟨_, by rw [forL_cons hn, hb]; rfl⟩
    | some p =>
      have hb : b_nw [.im d, .im k, .im e] = .nx [.im d, .im k, .im e] := by simp [retS, seqS, asgS, clF, clI, clKF, isOw, consD, consF, callF, call1, drs, opF, op2, unF, op1, varF, cF, nilD, nilF, bd, bs, frz, dr, fin, dat, setN, pin_0, pin_s, np_im, np_un, np_ow, iteS, tstF, blO, nxS, dropS, mutF, mutO, thaw, tupF, lstF, tupD, lstD, andF, orF, notF, andV, orV, notV, ifF, tgS, tupU, consT, nameT, nilT, parS, slF, noO, parO, intO, slO, isnD, unS, out, retV, negD, subD, intD, unF, op1, truF, truO, tru, parN, consL, addL, nilL, parM, setL, slOf, nrm, two, ltD, gtD, leD, geD, v_sl, h1]
      obtain ⟨ρ', q⟩ := l_nwx d k ds (.im e) fr_im (by
        obtain ⟨z, hz, e0⟩ := h
        rcases List.mem_cons.mp hz with rfl | hz
        · rw [h1] at e0; cases e0
        · exact ⟨z, hz, e0⟩)
      exact ⟨ρ', by rw [forL_cons hn, hb]; exact q⟩
theorem v_need_wordx {d k : D} (h : badW d) (ρ : Rho) : foE 2 m_need_word [d, k] ρ = .ex 1 k ρ := by
  rcases h with h | ⟨ds, h, he⟩
  · refine foE_ex (ρ' := [.im d, .im k, .un]) ?_ rfl ρ
    unfold G_need_word
    refine seq_ex ?_
    simp [retS, seqS, asgS, clF, clI, clKF, isOw, consD, consF, callF, call1, drs, opF, op2, unF, op1, varF, cF, nilD, nilF, bd, bs, frz, dr, fin, dat, setN, pin_0, pin_s, np_im, np_un, np_ow, iteS, tstF, blO, nxS, dropS, mutF, mutO, thaw, tupF, lstF, tupD, lstD, andF, orF, notF, andV, orV, notV, ifF, tgS, tupU, consT, nameT, nilT, parS, slF, noO, parO, intO, slO, isnD, unS, out, retV, negD, subD, intD, unF, op1, truF, truO, tru, parN, consL, addL, nilL, parM, setL, slOf, nrm, two, ltD, gtD, leD, geD, v_is_sequence, h, rseS, rseO]
  · obtain ⟨ρ', q⟩ := l_nwx d k ds .un fr_un he
    refine foE_ex (ρ' := ρ') ?_ rfl ρ
    unfold G_need_word
    have z0 : iteS (notF (tstF (clF 1 m_is_sequence (consD (varF 0) nilD)))) (rseS 1 (consD (varF 1) nilD)) nxS ([.im d, .im k, .un]) = .nx [.im d, .im k, .un] := by simp [retS, seqS, asgS, clF, clI, clKF, isOw, consD, consF, callF, call1, drs, opF, op2, unF, op1, varF, cF, nilD, nilF, bd, bs, frz, dr, fin, dat, setN, pin_0, pin_s, np_im, np_un, np_ow, iteS, tstF, blO, nxS, dropS, mutF, mutO, thaw, tupF, lstF, tupD, lstD, andF, orF, notF, andV, orV, notV, ifF, tgS, tupU, consT, nameT, nilT, parS, slF, noO, parO, intO, slO, isnD, unS, out, retV, negD, subD, intD, unF, op1, truF, truO, tru, parN, consL, addL, nilL, parM, setL, slOf, nrm, two, ltD, gtD, leD, geD, v_is_sequence, h]
    show seqS _ _ [.im d, .im k, .un] = _
    rw [seq_nx z0]
    have I : seqI (varF 0) [.im d, .im k, .un] = .ok ds [.im d, .im k, .un] := by
      cases d with
      | list es => cases Option.some.inj h; simp [seqI, varF, bd, frz, dat, itD]
      | tuple es => cases Option.some.inj h; simp [seqI, varF, bd, frz, dat, itD]
      | _ => cases h
    exact seq_ex ((for_of I).trans q)
theorem isW_in : ∀ {ds : List D} {w : Wd} {e : D}, ds.map sl1 = w.map some → e ∈ ds → ∃ p, sl1 e = some p
  | [], _, e, _, he => by cases he
  | x :: ds, [], e, h, he => by cases h
  | x :: ds, p :: w, e, h, he => by
    rcases List.mem_cons.mp he with rfl | he
    · exact ⟨p, (List.cons.inj h).1⟩
    · exact isW_in (List.cons.inj h).2 he
theorem isW_pr : ∀ {ds : List D} {w : Wd}, ds.map sl1 = w.map some → ds.map (fun d => match sl1 d with | some p => pr p | none => .none) = w.map pr
  | [], [], _ => rfl
  | [], _ :: _, h => by cases h
  | x :: ds, [], h => by cases h
  | x :: ds, p :: w, h => by
    rw [List.map_cons, List.map_cons, isW_pr (List.cons.inj h).2, (List.cons.inj h).1]
theorem v_need_word {d : D} {w : Wd} (h : isW d w) (hz : w.length ≤ sizeLine) (k : D) (ρ : Rho) : foE 2 m_need_word [d, k] ρ = .ok (.im (wt w)) ρ := by
  obtain ⟨ds, h, hm⟩ := h
  have hl : ds.length = w.length := by have := congrArg List.length hm; simpa using this
  refine foE_of ?_ rfl ρ
  unfold G_need_word
  have z0 : iteS (notF (tstF (clF 1 m_is_sequence (consD (varF 0) nilD)))) (rseS 1 (consD (varF 1) nilD)) nxS ([.im d, .im k, .un]) = .nx [.im d, .im k, .un] := by simp [retS, seqS, asgS, clF, clI, clKF, isOw, consD, consF, callF, call1, drs, opF, op2, unF, op1, varF, cF, nilD, nilF, bd, bs, frz, dr, fin, dat, setN, pin_0, pin_s, np_im, np_un, np_ow, iteS, tstF, blO, nxS, dropS, mutF, mutO, thaw, tupF, lstF, tupD, lstD, andF, orF, notF, andV, orV, notV, ifF, tgS, tupU, consT, nameT, nilT, parS, slF, noO, parO, intO, slO, isnD, unS, out, retV, negD, subD, intD, unF, op1, truF, truO, tru, parN, consL, addL, nilL, parM, setL, slOf, nrm, two, ltD, gtD, leD, geD, v_is_sequence, h]
  have I : ∀ y, seqI (varF 0) [.im d, .im k, y] = .ok ds [.im d, .im k, y] := fun y => by
    cases d with
    | list es => cases Option.some.inj h; simp [seqI, varF, bd, frz, dat, itD]
    | tuple es => cases Option.some.inj h; simp [seqI, varF, bd, frz, dat, itD]
    | _ => cases h
  obtain ⟨y', hy', q⟩ := l_nw d k ds w .un fr_un hm
  show out (seqS _ _ [.im d, .im k, .un]) = _
  rw [seq_nx z0, seq_nx ((for_of (I .un)).trans q)]
  have C : lcF (seqI (varF 0)) (nameT 2) yesF (tupF (consD (opF ixD (varF 2) (cF (.int 0))) (consD (opF ixD (varF 2) (cF (.int 1))) nilD))) [2] [.im d, .im k, y'] = .ok (.fr (w.map pr)) [.im d, .im k, y'] := by
    have pl' : plainAt [.im d, .im k, y'] [2] = true := by rcases hy' with rfl | ⟨z, rfl⟩ <;> rfl
    have un' : unwipe [.im d, .im k, y'] (wipeR [.im d, .im k, y'] [2]) [2] = [.im d, .im k, y'] := by rcases hy' with rfl | ⟨z, rfl⟩ <;> rfl
    have ww : wipeR [.im d, .im k, y'] [2] = [.im d, .im k, .un] := by rcases hy' with rfl | ⟨z, rfl⟩ <;> rfl
    unfold lcF
    rw [I y', bd_ok, if_pos pl', ww, lcL_map (f := fun d => match sl1 d with | some p => pr p | none => .none) ds [] (fun e he => ?_) (by rw [hl]; simpa using hz)]
    · rw [ww] at un'
      rw [bd_ok, isW_pr hm, un']
      rfl
    · obtain ⟨p, e1⟩ := isW_in hm he
      obtain ⟨s1, _⟩ := sl1_at e1
      obtain ⟨x0, x1⟩ := ix_row s1
      refine ⟨[.im d, .im k, .im e], [.im d, .im k, .im e], rfl, ?_, rfl, rfl⟩
      simp [retS, seqS, asgS, clF, clI, clKF, isOw, consD, consF, callF, call1, drs, opF, op2, unF, op1, varF, cF, nilD, nilF, bd, bs, frz, dr, fin, dat, setN, pin_0, pin_s, np_im, np_un, np_ow, iteS, tstF, blO, nxS, dropS, mutF, mutO, thaw, tupF, lstF, tupD, lstD, andF, orF, notF, andV, orV, notV, ifF, tgS, tupU, consT, nameT, nilT, parS, slF, noO, parO, intO, slO, isnD, unS, out, retV, negD, subD, intD, unF, op1, truF, truO, tru, parN, consL, addL, nilL, parM, setL, slOf, nrm, two, ltD, gtD, leD, geD, x0, x1, e1, pr, sizeLine_eq]
  show out (retS (unF tupleD _) _) = _
  simp only [retS, unF, C, bs, bd, frz, op1, dr, tupleD, fin, out, retV, wt]
end K01
end VL

namespace VL
open PySem PySem.Spec PyProof.Rows L2
open PySem.W (Datum Tup)

namespace K01
theorem v_struckT (w : Wd) (h : w.length ≤ sizeLine) (ρ : Rho) : foE 1 m_struck [wt w] ρ = .ok (.im (wt (strike w))) ρ := by
  refine foE_of ?_ rfl ρ
  unfold G_struck wt strike
  obtain ⟨y', _, e⟩ := l_struck (.tuple (w.map pr)) w [] .un fr_un (by simpa using h)
  have e : forL (nameT 2) b_struck (w.map pr) [.im (.tuple (w.map pr)), .ow false [], .un] = _ := e
  simp [seqS, asgS, lstF, nilD, bs, bd, lstD, setN, pinned, unS, forS, seqI, varF, frz, dat, itD, e, retS, unF, op1, dr, tupleD, fin, out, retV]
theorem v_strike_out {d : D} {w : Wd} (h : isW d w) (hz : w.length ≤ sizeLine) (ρ : Rho) : foE 1 m_strike_out [d] ρ = .ok (.im (wt (strike w))) ρ := by
  have a := v_need_word h hz (.int (-1))
  have b := v_struckT w hz
  refine foE_of ?_ rfl ρ
  unfold G_strike_out
  simp [retS, seqS, asgS, clF, clI, clKF, isOw, consD, consF, callF, call1, drs, opF, op2, unF, op1, varF, cF, nilD, nilF, bd, bs, frz, dr, fin, dat, setN, pin_0, pin_s, np_im, np_un, np_ow, iteS, tstF, blO, nxS, dropS, mutF, mutO, thaw, tupF, lstF, tupD, lstD, andF, orF, notF, andV, orV, notV, ifF, tgS, tupU, consT, nameT, nilT, parS, slF, noO, parO, intO, slO, isnD, unS, out, retV, negD, subD, intD, unF, op1, truF, truO, tru, parN, consL, addL, nilL, parM, setL, slOf, nrm, two, ltD, gtD, leD, geD, a, b]
theorem v_strike_outx {d : D} (h : badW d) (ρ : Rho) : foE 1 m_strike_out [d] ρ = .ex 1 (.int (-1)) ρ := by
  have a := v_need_wordx (k := .int (-1)) h
  refine foE_ex (ρ' := [.im d]) ?_ rfl ρ
  unfold G_strike_out
  simp [retS, seqS, asgS, clF, clI, clKF, isOw, consD, consF, callF, call1, drs, opF, op2, unF, op1, varF, cF, nilD, nilF, bd, bs, frz, dr, fin, dat, setN, pin_0, pin_s, np_im, np_un, np_ow, iteS, tstF, blO, nxS, dropS, mutF, mutO, thaw, tupF, lstF, tupD, lstD, andF, orF, notF, andV, orV, notV, ifF, tgS, tupU, consT, nameT, nilT, parS, slF, noO, parO, intO, slO, isnD, unS, out, retV, negD, subD, intD, unF, op1, truF, truO, tru, parN, consL, addL, nilL, parM, setL, slOf, nrm, two, ltD, gtD, leD, geD, a]
theorem inv_is (w : Wd) : (w.reverse.map fun p => (p.1, -p.2)) = inv w := by simp [inv, List.map_reverse]
theorem v_undo_word {d : D} {w : Wd} (h : isW d w) (hz : w.length ≤ sizeLine) (ρ : Rho) : foE 1 m_undo_word [d] ρ = .ok (.im (wt (inv w))) ρ := by
  have a := v_need_word h hz (.int (-1))
  have b := v_undone w hz
  rw [inv_is] at b
  refine foE_of ?_ rfl ρ
  unfold G_undo_word
  simp [retS, seqS, asgS, clF, clI, clKF, isOw, consD, consF, callF, call1, drs, opF, op2, unF, op1, varF, cF, nilD, nilF, bd, bs, frz, dr, fin, dat, setN, pin_0, pin_s, np_im, np_un, np_ow, iteS, tstF, blO, nxS, dropS, mutF, mutO, thaw, tupF, lstF, tupD, lstD, andF, orF, notF, andV, orV, notV, ifF, tgS, tupU, consT, nameT, nilT, parS, slF, noO, parO, intO, slO, isnD, unS, out, retV, negD, subD, intD, unF, op1, truF, truO, tru, parN, consL, addL, nilL, parM, setL, slOf, nrm, two, ltD, gtD, leD, geD, a, b]
theorem v_undo_wordx {d : D} (h : badW d) (ρ : Rho) : foE 1 m_undo_word [d] ρ = .ex 1 (.int (-1)) ρ := by
  have a := v_need_wordx (k := .int (-1)) h
  refine foE_ex (ρ' := [.im d]) ?_ rfl ρ
  unfold G_undo_word
  simp [retS, seqS, asgS, clF, clI, clKF, isOw, consD, consF, callF, call1, drs, opF, op2, unF, op1, varF, cF, nilD, nilF, bd, bs, frz, dr, fin, dat, setN, pin_0, pin_s, np_im, np_un, np_ow, iteS, tstF, blO, nxS, dropS, mutF, mutO, thaw, tupF, lstF, tupD, lstD, andF, orF, notF, andV, orV, notV, ifF, tgS, tupU, consT, nameT, nilT, parS, slF, noO, parO, intO, slO, isnD, unS, out, retV, negD, subD, intD, unF, op1, truF, truO, tru, parN, consL, addL, nilL, parM, setL, slOf, nrm, two, ltD, gtD, leD, geD, a]
theorem addD_wt (v w : Wd) (h : v.length + w.length ≤ sizeLine) : addD (wt v) (wt w) = some (.im (wt (v ++ w))) := by
  simp [wt, addD, h]
theorem v_join_words {d e : D} {v w : Wd} (h : isW d v) (k : isW e w) (hz : v.length + w.length ≤ sizeLine) (ρ : Rho) : foE 2 m_join_words [d, e] ρ = .ok (.im (wt (strike (v ++ w)))) ρ := by
  have a := v_need_word h (by omega) (.int 0)
  have b := v_need_word k (by omega) (.int 1)
  have c := v_struckT (v ++ w) (by rw [List.length_append]; exact hz)
  have q := addD_wt v w hz
  refine foE_of ?_ rfl ρ
  unfold G_join_words
  simp [retS, seqS, asgS, clF, clI, clKF, isOw, consD, consF, callF, call1, drs, opF, op2, unF, op1, varF, cF, nilD, nilF, bd, bs, frz, dr, fin, dat, setN, pin_0, pin_s, np_im, np_un, np_ow, iteS, tstF, blO, nxS, dropS, mutF, mutO, thaw, tupF, lstF, tupD, lstD, andF, orF, notF, andV, orV, notV, ifF, tgS, tupU, consT, nameT, nilT, parS, slF, noO, parO, intO, slO, isnD, unS, out, retV, negD, subD, intD, unF, op1, truF, truO, tru, parN, consL, addL, nilL, parM, setL, slOf, nrm, two, ltD, gtD, leD, geD, a, b, c, q]
theorem v_join_words0 {d e : D} (h : badW d) (ρ : Rho) : foE 2 m_join_words [d, e] ρ = .ex 1 (.int 0) ρ := by
  have a := v_need_wordx (k := .int 0) h
  refine foE_ex (ρ' := [.im d, .im e, .un]) ?_ rfl ρ
  unfold G_join_words
  simp [retS, seqS, asgS, clF, clI, clKF, isOw, consD, consF, callF, call1, drs, opF, op2, unF, op1, varF, cF, nilD, nilF, bd, bs, frz, dr, fin, dat, setN, pin_0, pin_s, np_im, np_un, np_ow, iteS, tstF, blO, nxS, dropS, mutF, mutO, thaw, tupF, lstF, tupD, lstD, andF, orF, notF, andV, orV, notV, ifF, tgS, tupU, consT, nameT, nilT, parS, slF, noO, parO, intO, slO, isnD, unS, out, retV, negD, subD, intD, unF, op1, truF, truO, tru, parN, consL, addL, nilL, parM, setL, slOf, nrm, two, ltD, gtD, leD, geD, a]
theorem v_join_words1 {d e : D} {v : Wd} (h : isW d v) (hz : v.length ≤ sizeLine) (k : badW e) (ρ : Rho) : foE 2 m_join_words [d, e] ρ = .ex 1 (.int 1) ρ := by
  have a := v_need_word h hz (.int 0)
  have b := v_need_wordx (k := .int 1) k
  refine foE_ex (ρ' := [.im d, .im e, .im (wt v)]) ?_ rfl ρ
  unfold G_join_words
  simp [retS, seqS, asgS, clF, clI, clKF, isOw, consD, consF, callF, call1, drs, opF, op2, unF, op1, varF, cF, nilD, nilF, bd, bs, frz, dr, fin, dat, setN, pin_0, pin_s, np_im, np_un, np_ow, iteS, tstF, blO, nxS, dropS, mutF, mutO, thaw, tupF, lstF, tupD, lstD, andF, orF, notF, andV, orV, notV, ifF, tgS, tupU, consT, nameT, nilT, parS, slF, noO, parO, intO, slO, isnD, unS, out, retV, negD, subD, intD, unF, op1, truF, truO, tru, parN, consL, addL, nilL, parM, setL, slOf, nrm, two, ltD, gtD, leD, geD, a, b]
theorem v_text_word {d : D} {xs : List Int} (h : isT d xs) (hz : xs.length ≤ sizeLine) (ρ : Rho) : foE 1 m_text_word [d] ρ = .ok (.im (wt (pl xs))) ρ := by
  have a := v_need_text h (.int (-1))
  have b := v_pw xs hz
  refine foE_of ?_ rfl ρ
  unfold G_text_word
  simp [retS, seqS, asgS, clF, clI, clKF, isOw, consD, consF, callF, call1, drs, opF, op2, unF, op1, varF, cF, nilD, nilF, bd, bs, frz, dr, fin, dat, setN, pin_0, pin_s, np_im, np_un, np_ow, iteS, tstF, blO, nxS, dropS, mutF, mutO, thaw, tupF, lstF, tupD, lstD, andF, orF, notF, andV, orV, notV, ifF, tgS, tupU, consT, nameT, nilT, parS, slF, noO, parO, intO, slO, isnD, unS, out, retV, negD, subD, intD, unF, op1, truF, truO, tru, parN, consL, addL, nilL, parM, setL, slOf, nrm, two, ltD, gtD, leD, geD, a, b]
theorem v_text_wordx {d : D} (h : textOf d = .none) (ρ : Rho) : foE 1 m_text_word [d] ρ = .ex 0 (.int (-1)) ρ := by
  have a := v_need_bad h (.int (-1))
  refine foE_ex (ρ' := [.im d]) ?_ rfl ρ
  unfold G_text_word
  simp [retS, seqS, asgS, clF, clI, clKF, isOw, consD, consF, callF, call1, drs, opF, op2, unF, op1, varF, cF, nilD, nilF, bd, bs, frz, dr, fin, dat, setN, pin_0, pin_s, np_im, np_un, np_ow, iteS, tstF, blO, nxS, dropS, mutF, mutO, thaw, tupF, lstF, tupD, lstD, andF, orF, notF, andV, orV, notV, ifF, tgS, tupU, consT, nameT, nilT, parS, slF, noO, parO, intO, slO, isnD, unS, out, retV, negD, subD, intD, unF, op1, truF, truO, tru, parN, consL, addL, nilL, parM, setL, slOf, nrm, two, ltD, gtD, leD, geD, a]
/-- a word's text -/
def txO (w : Wd) : D := if (w.any fun p => decide (p.2 < 0)) = true then .none else ti (w.map (·.1))
theorem part1 (X : Sl) (w : Wd) (hz : w.length ≤ sizeLine) (a b : Sl) : lcF (seqI (varF 0)) (tupU 2 (consT (nameT 1) (consT (nameT 2) nilT))) yesF (opF ltD (varF 2) (cF (.int 0))) [1, 2] [.im (wt w), .un, .un, .un] = .ok (.fr (w.map fun p => .bool (decide (p.2 < 0)))) [.im (wt w), .un, .un, .un] := by
  have I : seqI (varF 0) [.im (wt w), .un, .un, .un] = .ok (w.map pr) [.im (wt w), .un, .un, .un] := by simp [seqI, varF, bd, frz, dat, itD, wt]
  have g : ∀ ws : Wd, (ws.map pr).map (fun d => match d with | .tuple [.int a, .int b] => PyData.bool (decide (b < 0)) | _ => .none) = ws.map fun p => .bool (decide (p.2 < 0)) := fun ws => by rw [List.map_map]; rfl
  unfold lcF
  rw [I, bd_ok, if_pos (show plainAt _ _ = true from rfl), show wipeR [.im (wt w), .un, .un, .un] [1, 2] = [.im (wt w), .un, .un, .un] from rfl,
    lcL_map (f := fun d => match d with | .tuple [.int a, .int b] => PyData.bool (decide (b < 0)) | _ => .none) (w.map pr) [] (fun d hd => ?_) (by simpa using hz)]
  · rw [bd_ok, g]
    rfl
  · obtain ⟨p, hp, rfl⟩ := List.mem_map.mp hd
    refine ⟨[.im (wt w), .im (.int p.1), .im (.int p.2), .un], [.im (wt w), .im (.int p.1), .im (.int p.2), .un], rfl, ?_, rfl, rfl⟩
    simp [retS, seqS, asgS, clF, clI, clKF, isOw, consD, consF, callF, call1, drs, opF, op2, unF, op1, varF, cF, nilD, nilF, bd, bs, frz, dr, fin, dat, setN, pin_0, pin_s, np_im, np_un, np_ow, iteS, tstF, blO, nxS, dropS, mutF, mutO, thaw, tupF, lstF, tupD, lstD, andF, orF, notF, andV, orV, notV, ifF, tgS, tupU, consT, nameT, nilT, parS, slF, noO, parO, intO, slO, isnD, unS, out, retV, negD, subD, intD, unF, op1, truF, truO, tru, parN, consL, addL, nilL, parM, setL, slOf, nrm, two, ltD, gtD, leD, geD, pr]
theorem part2 (w : Wd) (hz : w.length ≤ sizeLine) : lcF (seqI (varF 0)) (tupU 2 (consT (nameT 3) (consT (nameT 1) nilT))) yesF (varF 3) [3, 1] [.im (wt w), .un, .un, .un] = .ok (.fr ((w.map (·.1)).map .int)) [.im (wt w), .un, .un, .un] := by
  have I : seqI (varF 0) [.im (wt w), .un, .un, .un] = .ok (w.map pr) [.im (wt w), .un, .un, .un] := by simp [seqI, varF, bd, frz, dat, itD, wt]
  have g : ∀ ws : Wd, (ws.map pr).map (fun d => match d with | .tuple [.int a, .int b] => PyData.int a | _ => .none) = (ws.map (·.1)).map .int := fun ws => by rw [List.map_map, List.map_map]; rfl
  unfold lcF
  rw [I, bd_ok, if_pos (show plainAt _ _ = true from rfl), show wipeR [.im (wt w), .un, .un, .un] [3, 1] = [.im (wt w), .un, .un, .un] from rfl,
    lcL_map (f := fun d => match d with | .tuple [.int a, .int b] => PyData.int a | _ => .none) (w.map pr) [] (fun d hd => ?_) (by simpa using hz)]
  · rw [bd_ok, g]
    rfl
  · obtain ⟨p, hp, rfl⟩ := List.mem_map.mp hd
    refine ⟨[.im (wt w), .im (.int p.2), .un, .im (.int p.1)], [.im (wt w), .im (.int p.2), .un, .im (.int p.1)], rfl, ?_, rfl, rfl⟩
    simp [retS, seqS, asgS, clF, clI, clKF, isOw, consD, consF, callF, call1, drs, opF, op2, unF, op1, varF, cF, nilD, nilF, bd, bs, frz, dr, fin, dat, setN, pin_0, pin_s, np_im, np_un, np_ow, iteS, tstF, blO, nxS, dropS, mutF, mutO, thaw, tupF, lstF, tupD, lstD, andF, orF, notF, andV, orV, notV, ifF, tgS, tupU, consT, nameT, nilT, parS, slF, noO, parO, intO, slO, isnD, unS, out, retV, negD, subD, intD, unF, op1, truF, truO, tru, parN, consL, addL, nilL, parM, setL, slOf, nrm, two, ltD, gtD, leD, geD, pr]
theorem bools_ok : ∀ l : List Bool, boolsD (l.map .bool) = some l
  | [] => rfl
  | b :: l => by simp [boolsD, bools_ok l]
theorem any_ok (l : List Bool) : anyD [.list (l.map .bool)] = some (.im (.bool (l.any id))) := by
  simp [anyD, bools_ok]
theorem v_text_of (w : Wd) (hz : w.length ≤ sizeLine) (ρ : Rho) : foE 1 m_text_of [wt w] ρ = .ok (.im (txO w)) ρ := by
  refine foE_of ?_ rfl ρ
  unfold G_text_of txO
  have a := part1 .un w hz .un .un
  have b := part2 w hz
  have c : anyD [.list (w.map fun p => .bool (decide (p.2 < 0)))] = some (.im (.bool (w.any fun p => decide (p.2 < 0)))) := by
    have := any_ok (w.map fun p => decide (p.2 < 0))
    rw [List.map_map, List.any_map] at this
    exact this
  have A : tstF (callF anyD (consF (lcF (seqI (varF 0)) (tupU 2 (consT (nameT 1) (consT (nameT 2) nilT))) yesF (opF ltD (varF 2) (cF (.int 0))) [1, 2]) nilF)) [.im (wt w), .un, .un, .un] = .ok (w.any fun p => decide (p.2 < 0)) [.im (wt w), .un, .un, .un] := by
    simp only [tstF, callF, consF, a, nilF, bd, frz, call1, drs, dr, c, fin, blO, Option.map]
  show out (seqS (iteS _ _ _) _ [.im (wt w), .un, .un, .un]) = _
  by_cases h : (w.any fun p => decide (p.2 < 0)) = true
  · rw [h] at A
    rw [seq_rt ((ite_t A).trans (show retS (cF .none) _ = .rt (.im .none) _ from rfl)), if_pos h]
    rfl
  · rw [Bool.not_eq_true] at h
    rw [h] at A
    rw [seq_nx ((ite_f A).trans (show nxS _ = .nx _ from rfl)), if_neg (by rw [h]; exact Bool.false_ne_true)]
    simp only [retS, unF, b, bs, bd, frz, op1, dr, tupleD, fin, out, retV, ti]
theorem v_word_text {d : D} {w : Wd} (h : isW d w) (hz : w.length ≤ sizeLine) (ρ : Rho) : foE 1 m_word_text [d] ρ = .ok (.im (txO (strike w))) ρ := by
  have a := v_need_word h hz (.int (-1))
  have b := v_struckT w hz
  have l := run_len w []
  have c := v_text_of (strike w) (by unfold strike; rw [List.length_reverse]; simp at l; omega)
  refine foE_of ?_ rfl ρ
  unfold G_word_text
  simp [retS, seqS, asgS, clF, clI, clKF, isOw, consD, consF, callF, call1, drs, opF, op2, unF, op1, varF, cF, nilD, nilF, bd, bs, frz, dr, fin, dat, setN, pin_0, pin_s, np_im, np_un, np_ow, iteS, tstF, blO, nxS, dropS, mutF, mutO, thaw, tupF, lstF, tupD, lstD, andF, orF, notF, andV, orV, notV, ifF, tgS, tupU, consT, nameT, nilT, parS, slF, noO, parO, intO, slO, isnD, unS, out, retV, negD, subD, intD, unF, op1, truF, truO, tru, parN, consL, addL, nilL, parM, setL, slOf, nrm, two, ltD, gtD, leD, geD, a, b, c]
theorem v_word_textx {d : D} (h : badW d) (ρ : Rho) : foE 1 m_word_text [d] ρ = .ex 1 (.int (-1)) ρ := by
  have a := v_need_wordx (k := .int (-1)) h
  refine foE_ex (ρ' := [.im d]) ?_ rfl ρ
  unfold G_word_text
  simp [retS, seqS, asgS, clF, clI, clKF, isOw, consD, consF, callF, call1, drs, opF, op2, unF, op1, varF, cF, nilD, nilF, bd, bs, frz, dr, fin, dat, setN, pin_0, pin_s, np_im, np_un, np_ow, iteS, tstF, blO, nxS, dropS, mutF, mutO, thaw, tupF, lstF, tupD, lstD, andF, orF, notF, andV, orV, notV, ifF, tgS, tupU, consT, nameT, nilT, parS, slF, noO, parO, intO, slO, isnD, unS, out, retV, negD, subD, intD, unF, op1, truF, truO, tru, parN, consL, addL, nilL, parM, setL, slOf, nrm, two, ltD, gtD, leD, geD, a]
end K01
end VL

namespace VL
open PySem PySem.Spec PyProof.Rows L2
open PySem.W (Datum Tup)

namespace K01
/-! ### drawn words -/
abbrev b_wd : Rho → So := seqS (asgS 4 (clI 2 m_law_take 0 (consD (cF (.int 3)) nilD)))
  (iteS (andF (tstF (opF gtD (callF lenD (consF (varF 2) nilF)) (cF (.int 0)))) (tstF (opF eqD (varF 4) (cF (.int 0)))))
  (dropS (mutF apD 2 (consD (tupF (consD (opF ixD (opF ixD (varF 2) (unF negD (cF (.int 1)))) (cF (.int 0))) (consD (opF subD (cF (.int 0)) (opF ixD (opF ixD (varF 2) (unF negD (cF (.int 1)))) (cF (.int 1)))) nilD))) nilD)))
  (dropS (mutF apD 2 (consD (tupF (consD (clI 2 m_law_pick 0 (consD (varF 1) nilD)) (consD (opF ixD (lstF (consD (cF (.int 1)) (consD (opF subD (cF (.int 0)) (cF (.int 1))) nilD))) (clI 2 m_law_take 0 (consD (cF (.int 2)) nilD))) nilD))) nilD))))
theorem nil_snoc (l : Wd) : l = [] ∨ ∃ a x, l = a ++ [x] := by
  rcases List.eq_nil_or_concat l with h | ⟨a, x, h⟩
  · exact .inl h
  · exact .inr ⟨a, x, by rw [h]; simp⟩
theorem lenD_l (xs : List D) : lenD [.list xs] = some (.im (.int (xs.length : Nat))) := rfl
theorem t_wd {n : Nat} {c : Int × Int × Int} (h : Bx n c) (hn : n + 3 < 1000) {ls : List Int} (h0 : ls ≠ []) (hz : ls.length < 100) (hl : Lt ls) {w : Wd} (hw : Lw w) (hwz : w.length < 100) (y z : Sl) (hy : Fr z) :
    ∃ p c' z', Lw [p] ∧ Bx (n + 3) c' ∧ Fr z' ∧ b_wd [.ow true (bx c), .im (.list (ls.map .int)), .ow false (w.map pr), y, z] = .nx [.ow true (bx c'), .im (.list (ls.map .int)), .ow false ((w ++ [p]).map pr), y, z'] := by
  obtain ⟨d0, d1⟩ := dig_b c (show (0 : Int) < 3 by decide)
  have b1 := box_ok h (show (0 : Int) < 3 by decide)
  have t := @v_take n c h (by omega) 3 (by decide) (by decide) [.ow true (bx c), .im (.list (ls.map .int)), .ow false (w.map pr), y, z] 0 true rfl
  have A : asgS 4 (clI 2 m_law_take 0 (consD (cF (.int 3)) nilD)) [.ow true (bx c), .im (.list (ls.map .int)), .ow false (w.map pr), y, z] = .nx [.ow true (bx (box c 3)), .im (.list (ls.map .int)), .ow false (w.map pr), y, .im (.int (dig c 3))] := by
    rcases hy with rfl | ⟨e, rfl⟩ <;> simp [retS, seqS, asgS, clF, clI, clKF, isOw, consD, consF, callF, call1, drs, opF, op2, unF, op1, varF, cF, nilD, nilF, bd, bs, frz, dr, fin, dat, setN, pin_0, pin_s, np_im, np_un, np_ow, iteS, tstF, blO, nxS, dropS, mutF, mutO, thaw, tupF, lstF, tupD, lstD, andF, orF, notF, andV, orV, notV, ifF, tgS, tupU, consT, nameT, nilT, parS, slF, noO, parO, intO, slO, isnD, unS, out, retV, negD, subD, intD, unF, op1, truF, truO, tru, parN, consL, addL, nilL, parM, setL, slOf, nrm, two, ltD, gtD, leD, geD, t, pinned]
  by_cases hc : w ≠ [] ∧ dig c 3 = 0
  · rcases nil_snoc w with rfl | ⟨u, q, rfl⟩
    · exact absurd rfl hc.1
    · have hq := hw q (by simp)
      refine ⟨(q.1, -q.2), box c 3, .im (.int (dig c 3)), fun p hp => ?_, b1.mono (by omega), fr_im, ?_⟩
      · rw [List.mem_singleton] at hp
        subst hp
        dsimp only
        omega
      · have g : ixD (.list (u.map pr ++ [pr q])) (.int (-1)) = some (.im (pr q)) := ixD_last _ _
        have s : (u.map pr ++ [pr q]).length < 16777216 := by simp; simp at hwz; omega
        have e0 := eqD_int 0 0
        have pe : PyData.tuple [.int q.1, .int (-q.2)] = pr (q.1, -q.2) := rfl
        have p0 : ixD (pr q) (.int 0) = some (.im (.int q.1)) := ixD_0 _ _
        have p1 : ixD (pr q) (.int 1) = some (.im (.int q.2)) := ixD_1 _ _ _
        have lp : (0 : Int) < (u.length : Int) + 1 := by omega
        unfold b_wd
        rw [seq_nx A]
        simp at s
        simp [retS, seqS, asgS, clF, clI, clKF, isOw, consD, consF, callF, call1, drs, opF, op2, unF, op1, varF, cF, nilD, nilF, bd, bs, frz, dr, fin, dat, setN, pin_0, pin_s, np_im, np_un, np_ow, iteS, tstF, blO, nxS, dropS, mutF, mutO, thaw, tupF, lstF, tupD, lstD, andF, orF, notF, andV, orV, notV, ifF, tgS, tupU, consT, nameT, nilT, parS, slF, noO, parO, intO, slO, isnD, unS, out, retV, negD, subD, intD, unF, op1, truF, truO, tru, parN, consL, addL, nilL, parM, setL, slOf, nrm, two, ltD, gtD, leD, geD, lenD_l, e0, hc.2, g, p0, p1, sizeLine_eq, apD, s, lp, pe]
        done
  · obtain ⟨d, c1, hd, b2, e⟩ := v_pick b1 (by omega) (es := ls.map .int) (by rw [List.length_map]; exact List.length_pos_iff.mpr h0) (by rw [List.length_map]; omega)
    obtain ⟨x, hx, rfl⟩ := List.mem_map.mp hd
    obtain ⟨d2, d3⟩ := dig_b c1 (show (0 : Int) < 2 by decide)
    have b3 := box_ok b2 (show (0 : Int) < 2 by decide)
    have e2 := e [.ow true (bx (box c 3)), .im (.list (ls.map .int)), .ow false (w.map pr), y, .im (.int (dig c 3))] 0 true rfl
    have t2 := @v_take (n + 1 + 1) c1 b2 (by omega) 2 (by decide) (by decide) [.ow true (bx c1), .im (.list (ls.map .int)), .ow false (w.map pr), y, .im (.int (dig c 3))] 0 true rfl
    obtain ⟨s, hs, g⟩ : ∃ s : Int, (s = 1 ∨ s = -1) ∧ ixD (.list [.int 1, .int (0 - 1)]) (.int (dig c1 2)) = some (.im (.int s)) := by
      rcases (show dig c1 2 = 0 ∨ dig c1 2 = 1 by omega) with k | k
      · rw [k]; exact ⟨1, .inl rfl, ixD_l (i := 0) rfl⟩
      · rw [k]; exact ⟨-1, .inr rfl, ixD_l (i := 1) rfl⟩
    refine ⟨(x, s), box c1 2, .im (.int (dig c 3)), fun p hp => ?_, b3, fr_im, ?_⟩
    · rw [List.mem_singleton] at hp
      subst hp
      exact ⟨(hl x hx).1, (hl x hx).2, hs⟩
    · have e0 := eqD_int (dig c 3) 0
      have sz : w.length < 16777216 := by omega
      have C : andF (tstF (opF gtD (callF lenD (consF (varF 2) nilF)) (cF (.int 0)))) (tstF (opF eqD (varF 4) (cF (.int 0)))) [.ow true (bx (box c 3)), .im (.list (ls.map .int)), .ow false (w.map pr), y, .im (.int (dig c 3))] = .ok false [.ow true (bx (box c 3)), .im (.list (ls.map .int)), .ow false (w.map pr), y, .im (.int (dig c 3))] := by
        by_cases hw0 : w = []
        · subst hw0; simp [retS, seqS, asgS, clF, clI, clKF, isOw, consD, consF, callF, call1, drs, opF, op2, unF, op1, varF, cF, nilD, nilF, bd, bs, frz, dr, fin, dat, setN, pin_0, pin_s, np_im, np_un, np_ow, iteS, tstF, blO, nxS, dropS, mutF, mutO, thaw, tupF, lstF, tupD, lstD, andF, orF, notF, andV, orV, notV, ifF, tgS, tupU, consT, nameT, nilT, parS, slF, noO, parO, intO, slO, isnD, unS, out, retV, negD, subD, intD, unF, op1, truF, truO, tru, parN, consL, addL, nilL, parM, setL, slOf, nrm, two, ltD, gtD, leD, geD, lenD_l]
        · have hp : 0 < w.length := List.length_pos_iff.mpr hw0
          have hd0 : ¬ dig c 3 = 0 := fun k => hc ⟨hw0, k⟩
          have hp' : (0 : Int) < (w.length : Int) := by omega
          simp [retS, seqS, asgS, clF, clI, clKF, isOw, consD, consF, callF, call1, drs, opF, op2, unF, op1, varF, cF, nilD, nilF, bd, bs, frz, dr, fin, dat, setN, pin_0, pin_s, np_im, np_un, np_ow, iteS, tstF, blO, nxS, dropS, mutF, mutO, thaw, tupF, lstF, tupD, lstD, andF, orF, notF, andV, orV, notV, ifF, tgS, tupU, consT, nameT, nilT, parS, slF, noO, parO, intO, slO, isnD, unS, out, retV, negD, subD, intD, unF, op1, truF, truO, tru, parN, consL, addL, nilL, parM, setL, slOf, nrm, two, ltD, gtD, leD, geD, lenD_l, e0, hd0, hp']
      unfold b_wd
      rw [seq_nx A, ite_f C]
      have g' : ixD (.list [.int 1, .int (-1)]) (.int (dig c1 2)) = some (.im (.int s)) := g
      simp [retS, seqS, asgS, clF, clI, clKF, isOw, consD, consF, callF, call1, drs, opF, op2, unF, op1, varF, cF, nilD, nilF, bd, bs, frz, dr, fin, dat, setN, pin_0, pin_s, np_im, np_un, np_ow, iteS, tstF, blO, nxS, dropS, mutF, mutO, thaw, tupF, lstF, tupD, lstD, andF, orF, notF, andV, orV, notV, ifF, tgS, tupU, consT, nameT, nilT, parS, slF, noO, parO, intO, slO, isnD, unS, out, retV, negD, subD, intD, unF, op1, truF, truO, tru, parN, consL, addL, nilL, parM, setL, slOf, nrm, two, ltD, gtD, leD, geD, e2, t2, g', sizeLine_eq, apD, sz, pr]
theorem Lw.snoc {w : Wd} {p : P2} (h : Lw w) (k : Lw [p]) : Lw (w ++ [p]) := fun q hq => (List.mem_append.mp hq).elim (h q) (k q)
theorem l_wd {ls : List Int} (h0 : ls ≠ []) (hz : ls.length < 100) (hl : Lt ls) : ∀ (k s n : Nat) (c : Int × Int × Int) (w : Wd) (y z : Sl), Bx n c → n + 3 * k < 999 → Lw w → w.length + k < 100 → Fr y → Fr z →
    ∃ w' c' y' z', Lw w' ∧ w'.length = w.length + k ∧ Bx (n + 3 * k) c' ∧ Fr y' ∧ Fr z' ∧ forL (nameT 3) b_wd (idx s k) [.ow true (bx c), .im (.list (ls.map .int)), .ow false (w.map pr), y, z] = .nx [.ow true (bx c'), .im (.list (ls.map .int)), .ow false (w'.map pr), y', z']
  | 0, s, n, c, w, y, z, h, hn, hw, hwz, hy, hzz => ⟨w, c, y, z, hw, rfl, h, hy, hzz, rfl⟩
  | k + 1, s, n, c, w, y, z, h, hn, hw, hwz, hy, hzz => by
    have nm : nameT 3 (.int (s : Int)) [.ow true (bx c), .im (.list (ls.map .int)), .ow false (w.map pr), y, z] = some [.ow true (bx c), .im (.list (ls.map .int)), .ow false (w.map pr), .im (.int (s : Int)), z] := by
      rcases hy with rfl | ⟨e, rfl⟩ <;> rfl
    obtain ⟨p, c1, z1, hp, b1, f1, e1⟩ := t_wd h (by omega) h0 hz hl hw (by omega) (.im (.int (s : Int))) z hzz
    obtain ⟨w2, c2, y2, z2, q1, q2, q3, q4, q5, q6⟩ := l_wd h0 hz hl k (s + 1) (n + 3) c1 (w ++ [p]) (.im (.int (s : Int))) z1 b1 (by omega) (hw.snoc hp) (by rw [List.length_append, List.length_singleton]; omega) fr_im f1
    refine ⟨w2, c2, y2, z2, q1, by rw [q2, List.length_append, List.length_singleton]; omega, q3.mono (by omega), q4, q5, ?_⟩
    rw [idx_succ, forL_cons nm, e1]
    exact q6
theorem v_law_word {n : Nat} {c : Int × Int × Int} (h : Bx n c) (hn : n + 50 < 999) {ls : List Int} (h0 : ls ≠ []) (hz : ls.length < 100) (hl : Lt ls) : ∃ w c', Lw w ∧ w.length ≤ 14 ∧ Bx (n + 43) c' ∧
    ∀ (ρ : Rho) (i : Nat) (b : Bool), ρ[i]? = some (.ow b (bx c)) → foI 2 m_law_word i [.list (ls.map .int)] ρ = .ok (.im (wt w)) (ρ.set i (.ow b (bx c'))) := by
  obtain ⟨d0, d1⟩ := dig_b c (show (0 : Int) < 15 by decide)
  have b1 := box_ok h (show (0 : Int) < 15 by decide)
  obtain ⟨k, hk⟩ : ∃ k : Nat, dig c 15 = (k : Int) := ⟨_, (Int.toNat_of_nonneg d0).symm⟩
  have hk14 : k ≤ 14 := by omega
  obtain ⟨w, c', y', z', q1, q2, q3, q4, q5, q6⟩ := l_wd h0 hz hl k 0 (n + 1) (box c 15) [] .un .un b1 (by omega) (fun _ z => nomatch z) (by simp; omega) fr_un fr_un
  refine ⟨w, c', q1, by rw [q2]; simpa using hk14, q3.mono (by omega), fun ρ i b hi => foI_of (r := [.im (.list (ls.map .int)), .ow false (w.map pr), y', z']) ?_ rfl hi⟩
  unfold G_law_word
  have t := @v_take n c h (by omega) 15 (by decide) (by decide) [.ow true (bx c), .im (.list (ls.map .int)), .ow false [], .un, .un] 0 true rfl
  rw [hk] at t
  have A : asgS 2 (lstF nilD) [.ow true (bx c), .im (.list (ls.map .int)), .un, .un, .un] = .nx [.ow true (bx c), .im (.list (ls.map .int)), .ow false [], .un, .un] := by simp [retS, seqS, asgS, clF, clI, clKF, isOw, consD, consF, callF, call1, drs, opF, op2, unF, op1, varF, cF, nilD, nilF, bd, bs, frz, dr, fin, dat, setN, pin_0, pin_s, np_im, np_un, np_ow, iteS, tstF, blO, nxS, dropS, mutF, mutO, thaw, tupF, lstF, tupD, lstD, andF, orF, notF, andV, orV, notV, ifF, tgS, tupU, consT, nameT, nilT, parS, slF, noO, parO, intO, slO, isnD, unS, out, retV, negD, subD, intD, unF, op1, truF, truO, tru, parN, consL, addL, nilL, parM, setL, slOf, nrm, two, ltD, gtD, leD, geD, pinned]
  have I : rng1I (clI 2 m_law_take 0 (consD (cF (.int 15)) nilD)) [.ow true (bx c), .im (.list (ls.map .int)), .ow false [], .un, .un] = .ok (idx 0 k) [.ow true (bx (box c 15)), .im (.list (ls.map .int)), .ow false [], .un, .un] := by
    refine rng1_of ?_ (by omega)
    simp [retS, seqS, asgS, clF, clI, clKF, isOw, consD, consF, callF, call1, drs, opF, op2, unF, op1, varF, cF, nilD, nilF, bd, bs, frz, dr, fin, dat, setN, pin_0, pin_s, np_im, np_un, np_ow, iteS, tstF, blO, nxS, dropS, mutF, mutO, thaw, tupF, lstF, tupD, lstD, andF, orF, notF, andV, orV, notV, ifF, tgS, tupU, consT, nameT, nilT, parS, slF, noO, parO, intO, slO, isnD, unS, out, retV, negD, subD, intD, unF, op1, truF, truO, tru, parN, consL, addL, nilL, parM, setL, slOf, nrm, two, ltD, gtD, leD, geD, t]
  show seqS _ (seqS (forS _ _ b_wd) _) [.ow true (bx c), .im (.list (ls.map .int)), .un, .un, .un] = _
  rw [seq_nx A, seq_nx ((for_of I).trans q6)]
  simp [retS, seqS, asgS, clF, clI, clKF, isOw, consD, consF, callF, call1, drs, opF, op2, unF, op1, varF, cF, nilD, nilF, bd, bs, frz, dr, fin, dat, setN, pin_0, pin_s, np_im, np_un, np_ow, iteS, tstF, blO, nxS, dropS, mutF, mutO, thaw, tupF, lstF, tupD, lstD, andF, orF, notF, andV, orV, notV, ifF, tgS, tupU, consT, nameT, nilT, parS, slF, noO, parO, intO, slO, isnD, unS, out, retV, negD, subD, intD, unF, op1, truF, truO, tru, parN, consL, addL, nilL, parM, setL, slOf, nrm, two, ltD, gtD, leD, geD, tupleD, wt]
/-! ### what is refused -/
def erD (x : Str) (k : Int) : D := .tuple [.str x, .int k]
abbrev E_rf (j : Nat) : Rho → So := match j with
  | 0 => dropS (clKF 1 m_strike_out [0] 0 1 nilD (consD (varF 1) nilD))
  | 1 => dropS (clKF 1 m_undo_word [0] 0 1 nilD (consD (varF 1) nilD))
  | 2 => dropS (clKF 2 m_join_words [0, 1] 0 2 nilD (consD (varF 1) (consD (varF 1) nilD)))
  | 3 => dropS (clKF 2 m_join_words [0, 1] 0 2 nilD (consD (tupF nilD) (consD (varF 1) nilD)))
  | 4 => dropS (clKF 1 m_strike_pairs [0] 0 1 nilD (consD (varF 1) nilD))
  | 5 => dropS (clKF 2 m_strikes_hold [0, 1] 0 2 nilD (consD (varF 1) (consD (tupF nilD) nilD)))
  | 6 => dropS (clKF 1 m_word_text [0] 0 1 nilD (consD (varF 1) nilD))
  | _ => dropS (clKF 1 m_text_word [0] 0 1 nilD (consD (varF 1) nilD))
theorem v_pairsx {d : D} (h : badW d) (ρ : Rho) : foE 1 m_strike_pairs [d] ρ = .ex 1 (.int (-1)) ρ := by
  have a := v_need_wordx (k := .int (-1)) h
  refine foE_ex (ρ' := [.im d, .un, .un, .un, .un]) ?_ rfl ρ
  unfold G_strike_pairs
  refine seq_ex ?_
  simp [retS, seqS, asgS, clF, clI, clKF, isOw, consD, consF, callF, call1, drs, opF, op2, unF, op1, varF, cF, nilD, nilF, bd, bs, frz, dr, fin, dat, setN, pin_0, pin_s, np_im, np_un, np_ow, iteS, tstF, blO, nxS, dropS, mutF, mutO, thaw, tupF, lstF, tupD, lstD, andF, orF, notF, andV, orV, notV, ifF, tgS, tupU, consT, nameT, nilT, parS, slF, noO, parO, intO, slO, isnD, unS, out, retV, negD, subD, intD, unF, op1, truF, truO, tru, parN, consL, addL, nilL, parM, setL, slOf, nrm, two, ltD, gtD, leD, geD, a]
theorem v_holdx {d e : D} (h : badW d) (ρ : Rho) : foE 2 m_strikes_hold [d, e] ρ = .ex 1 (.int (-1)) ρ := by
  have a := v_need_wordx (k := .int (-1)) h
  refine foE_ex (ρ' := [.im d, .im e, .un, .un, .un, .un, .un, .un, .un]) ?_ rfl ρ
  unfold G_strikes_hold
  refine seq_ex ?_
  simp [retS, seqS, asgS, clF, clI, clKF, isOw, consD, consF, callF, call1, drs, opF, op2, unF, op1, varF, cF, nilD, nilF, bd, bs, frz, dr, fin, dat, setN, pin_0, pin_s, np_im, np_un, np_ow, iteS, tstF, blO, nxS, dropS, mutF, mutO, thaw, tupF, lstF, tupD, lstD, andF, orF, notF, andV, orV, notV, ifF, tgS, tupU, consT, nameT, nilT, parS, slF, noO, parO, intO, slO, isnD, unS, out, retV, negD, subD, intD, unF, op1, truF, truO, tru, parN, consL, addL, nilL, parM, setL, slOf, nrm, two, ltD, gtD, leD, geD, a]
theorem g1P (d : D) : gP [0] 0 1 ([] : List D) [d] = [d] := rfl
theorem g2P (d e : D) : gP [0, 1] 0 2 ([] : List D) [d, e] = [d, e] := rfl
theorem v_rf {d : D} {j : Nat} {x : Str} {k : Int} {t : Nat} (hj : j < 8) (ht : (t = 1 ∧ x = "word") ∨ (t = 0 ∧ x = "text")) (e : E_rf j [.im (.int (j : Int)), .im d, .un] = .ex t (.int k) [.im (.int (j : Int)), .im d, .un]) (ρ : Rho) :
    foE 2 m_law_refused [.int (j : Int), d] ρ = .ok (.im (erD x k)) ρ := by
  refine foE_of ?_ rfl ρ
  unfold G_law_refused
  have b : iteS (tstF (opF eqD (varF 0) (cF (.int 0)))) (E_rf 0) (iteS (tstF (opF eqD (varF 0) (cF (.int 1)))) (E_rf 1) (iteS (tstF (opF eqD (varF 0) (cF (.int 2)))) (E_rf 2) (iteS (tstF (opF eqD (varF 0) (cF (.int 3)))) (E_rf 3)
      (iteS (tstF (opF eqD (varF 0) (cF (.int 4)))) (E_rf 4) (iteS (tstF (opF eqD (varF 0) (cF (.int 5)))) (E_rf 5) (iteS (tstF (opF eqD (varF 0) (cF (.int 6)))) (E_rf 6) (E_rf 7))))))) [.im (.int (j : Int)), .im d, .un] = .ex t (.int k) [.im (.int (j : Int)), .im d, .un] := by
    have c : ∀ i : Int, tstF (opF eqD (varF 0) (cF (.int i))) [.im (.int (j : Int)), .im d, .un] = .ok (decide ((j : Int) = i)) [.im (.int (j : Int)), .im d, .un] := fun i => by
      have := eqD_int (j : Int) i
      simp [retS, seqS, asgS, clF, clI, clKF, isOw, consD, consF, callF, call1, drs, opF, op2, unF, op1, varF, cF, nilD, nilF, bd, bs, frz, dr, fin, dat, setN, pin_0, pin_s, np_im, np_un, np_ow, iteS, tstF, blO, nxS, dropS, mutF, mutO, thaw, tupF, lstF, tupD, lstD, andF, orF, notF, andV, orV, notV, ifF, tgS, tupU, consT, nameT, nilT, parS, slF, noO, parO, intO, slO, isnD, unS, out, retV, negD, subD, intD, unF, op1, truF, truO, tru, parN, consL, addL, nilL, parM, setL, slOf, nrm, two, ltD, gtD, leD, geD, this]
    rcases (show j = 0 ∨ j = 1 ∨ j = 2 ∨ j = 3 ∨ j = 4 ∨ j = 5 ∨ j = 6 ∨ j = 7 by omega) with rfl | rfl | rfl | rfl | rfl | rfl | rfl | rfl
    · rw [ite_t ((c 0).trans rfl)]; exact e
    · rw [ite_f ((c 0).trans rfl), ite_t ((c 1).trans rfl)]; exact e
    · rw [ite_f ((c 0).trans rfl), ite_f ((c 1).trans rfl), ite_t ((c 2).trans rfl)]; exact e
    · rw [ite_f ((c 0).trans rfl), ite_f ((c 1).trans rfl), ite_f ((c 2).trans rfl), ite_t ((c 3).trans rfl)]; exact e
    · rw [ite_f ((c 0).trans rfl), ite_f ((c 1).trans rfl), ite_f ((c 2).trans rfl), ite_f ((c 3).trans rfl), ite_t ((c 4).trans rfl)]; exact e
    · rw [ite_f ((c 0).trans rfl), ite_f ((c 1).trans rfl), ite_f ((c 2).trans rfl), ite_f ((c 3).trans rfl), ite_f ((c 4).trans rfl), ite_t ((c 5).trans rfl)]; exact e
    · rw [ite_f ((c 0).trans rfl), ite_f ((c 1).trans rfl), ite_f ((c 2).trans rfl), ite_f ((c 3).trans rfl), ite_f ((c 4).trans rfl), ite_f ((c 5).trans rfl), ite_t ((c 6).trans rfl)]; exact e
    · rw [ite_f ((c 0).trans rfl), ite_f ((c 1).trans rfl), ite_f ((c 2).trans rfl), ite_f ((c 3).trans rfl), ite_f ((c 4).trans rfl), ite_f ((c 5).trans rfl), ite_f ((c 6).trans rfl)]; exact e
  have T : tryM 2 ((1, (retS (tupF (consD (cF (.str "word")) (consD (atF 2 1) nilD))))) :: ((0, (retS (tupF (consD (cF (.str "text")) (consD (atF 2 0) nilD))))) :: []))
      (iteS (tstF (opF eqD (varF 0) (cF (.int 0)))) (E_rf 0) (iteS (tstF (opF eqD (varF 0) (cF (.int 1)))) (E_rf 1) (iteS (tstF (opF eqD (varF 0) (cF (.int 2)))) (E_rf 2) (iteS (tstF (opF eqD (varF 0) (cF (.int 3)))) (E_rf 3)
      (iteS (tstF (opF eqD (varF 0) (cF (.int 4)))) (E_rf 4) (iteS (tstF (opF eqD (varF 0) (cF (.int 5)))) (E_rf 5) (iteS (tstF (opF eqD (varF 0) (cF (.int 6)))) (E_rf 6) (E_rf 7))))))))
      [.im (.int (j : Int)), .im d, .un] = .rt (.im (erD x k)) [.im (.int (j : Int)), .im d, .un] := by
    unfold tryM
    rw [b]
    rcases ht with ⟨rfl, rfl⟩ | ⟨rfl, rfl⟩ <;> rfl
  show out (seqS (tryM 2 _ _) _ [.im (.int (j : Int)), .im d, .un]) = _
  exact congrArg out (seq_rt T)
end K01
end VL

namespace VL
open PySem PySem.Spec PyProof.Rows L2
open PySem.W (Datum Tup)

namespace K01
def ksW (j : Nat) : Int := if j = 2 then 0 else if j = 3 then 1 else -1
theorem v_rfW {d : D} (h : badW d) (j : Nat) (hj : j < 7) (ρ : Rho) : foE 2 m_law_refused [.int (j : Int), d] ρ = .ok (.im (erD "word" (ksW j))) ρ := by
  refine v_rf (by omega) (.inl ⟨rfl, rfl⟩) ?_ ρ
  have a0 := v_strike_outx h
  have a1 := v_undo_wordx h
  have a2 := v_join_words0 (e := d) h
  have a3 := v_join_words1 (d := .tuple []) (v := []) ⟨[], rfl, rfl⟩ (Nat.zero_le _) h
  have a4 := v_pairsx h
  have a5 := v_holdx (e := .tuple []) h
  have a6 := v_word_textx h
  rcases (show j = 0 ∨ j = 1 ∨ j = 2 ∨ j = 3 ∨ j = 4 ∨ j = 5 ∨ j = 6 by omega) with rfl | rfl | rfl | rfl | rfl | rfl | rfl
  · simp [E_rf, retS, seqS, asgS, clF, clI, clKF, isOw, consD, consF, callF, call1, drs, opF, op2, unF, op1, varF, cF, nilD, nilF, bd, bs, frz, dr, fin, dat, setN, pin_0, pin_s, np_im, np_un, np_ow, iteS, tstF, blO, nxS, dropS, mutF, mutO, thaw, tupF, lstF, tupD, lstD, andF, orF, notF, andV, orV, notV, ifF, tgS, tupU, consT, nameT, nilT, parS, slF, noO, parO, intO, slO, isnD, unS, out, retV, negD, subD, intD, unF, op1, truF, truO, tru, parN, consL, addL, nilL, parM, setL, slOf, nrm, two, ltD, gtD, leD, geD, g1P, a0, ksW]
  · simp [E_rf, retS, seqS, asgS, clF, clI, clKF, isOw, consD, consF, callF, call1, drs, opF, op2, unF, op1, varF, cF, nilD, nilF, bd, bs, frz, dr, fin, dat, setN, pin_0, pin_s, np_im, np_un, np_ow, iteS, tstF, blO, nxS, dropS, mutF, mutO, thaw, tupF, lstF, tupD, lstD, andF, orF, notF, andV, orV, notV, ifF, tgS, tupU, consT, nameT, nilT, parS, slF, noO, parO, intO, slO, isnD, unS, out, retV, negD, subD, intD, unF, op1, truF, truO, tru, parN, consL, addL, nilL, parM, setL, slOf, nrm, two, ltD, gtD, leD, geD, g1P, a1, ksW]
  · simp [E_rf, retS, seqS, asgS, clF, clI, clKF, isOw, consD, consF, callF, call1, drs, opF, op2, unF, op1, varF, cF, nilD, nilF, bd, bs, frz, dr, fin, dat, setN, pin_0, pin_s, np_im, np_un, np_ow, iteS, tstF, blO, nxS, dropS, mutF, mutO, thaw, tupF, lstF, tupD, lstD, andF, orF, notF, andV, orV, notV, ifF, tgS, tupU, consT, nameT, nilT, parS, slF, noO, parO, intO, slO, isnD, unS, out, retV, negD, subD, intD, unF, op1, truF, truO, tru, parN, consL, addL, nilL, parM, setL, slOf, nrm, two, ltD, gtD, leD, geD, g2P, a2, ksW]
  · simp [E_rf, retS, seqS, asgS, clF, clI, clKF, isOw, consD, consF, callF, call1, drs, opF, op2, unF, op1, varF, cF, nilD, nilF, bd, bs, frz, dr, fin, dat, setN, pin_0, pin_s, np_im, np_un, np_ow, iteS, tstF, blO, nxS, dropS, mutF, mutO, thaw, tupF, lstF, tupD, lstD, andF, orF, notF, andV, orV, notV, ifF, tgS, tupU, consT, nameT, nilT, parS, slF, noO, parO, intO, slO, isnD, unS, out, retV, negD, subD, intD, unF, op1, truF, truO, tru, parN, consL, addL, nilL, parM, setL, slOf, nrm, two, ltD, gtD, leD, geD, g2P, a3, ksW]
  · simp [E_rf, retS, seqS, asgS, clF, clI, clKF, isOw, consD, consF, callF, call1, drs, opF, op2, unF, op1, varF, cF, nilD, nilF, bd, bs, frz, dr, fin, dat, setN, pin_0, pin_s, np_im, np_un, np_ow, iteS, tstF, blO, nxS, dropS, mutF, mutO, thaw, tupF, lstF, tupD, lstD, andF, orF, notF, andV, orV, notV, ifF, tgS, tupU, consT, nameT, nilT, parS, slF, noO, parO, intO, slO, isnD, unS, out, retV, negD, subD, intD, unF, op1, truF, truO, tru, parN, consL, addL, nilL, parM, setL, slOf, nrm, two, ltD, gtD, leD, geD, g1P, a4, ksW]
  · simp [E_rf, retS, seqS, asgS, clF, clI, clKF, isOw, consD, consF, callF, call1, drs, opF, op2, unF, op1, varF, cF, nilD, nilF, bd, bs, frz, dr, fin, dat, setN, pin_0, pin_s, np_im, np_un, np_ow, iteS, tstF, blO, nxS, dropS, mutF, mutO, thaw, tupF, lstF, tupD, lstD, andF, orF, notF, andV, orV, notV, ifF, tgS, tupU, consT, nameT, nilT, parS, slF, noO, parO, intO, slO, isnD, unS, out, retV, negD, subD, intD, unF, op1, truF, truO, tru, parN, consL, addL, nilL, parM, setL, slOf, nrm, two, ltD, gtD, leD, geD, g2P, a5, ksW]
  · simp [E_rf, retS, seqS, asgS, clF, clI, clKF, isOw, consD, consF, callF, call1, drs, opF, op2, unF, op1, varF, cF, nilD, nilF, bd, bs, frz, dr, fin, dat, setN, pin_0, pin_s, np_im, np_un, np_ow, iteS, tstF, blO, nxS, dropS, mutF, mutO, thaw, tupF, lstF, tupD, lstD, andF, orF, notF, andV, orV, notV, ifF, tgS, tupU, consT, nameT, nilT, parS, slF, noO, parO, intO, slO, isnD, unS, out, retV, negD, subD, intD, unF, op1, truF, truO, tru, parN, consL, addL, nilL, parM, setL, slOf, nrm, two, ltD, gtD, leD, geD, g1P, a6, ksW]
theorem v_rfT {d : D} (h : textOf d = .none) (ρ : Rho) : foE 2 m_law_refused [.int (7 : Nat), d] ρ = .ok (.im (erD "text" (-1))) ρ := by
  refine v_rf (by omega) (.inr ⟨rfl, rfl⟩) ?_ ρ
  have a := v_text_wordx h
  simp [E_rf, retS, seqS, asgS, clF, clI, clKF, isOw, consD, consF, callF, call1, drs, opF, op2, unF, op1, varF, cF, nilD, nilF, bd, bs, frz, dr, fin, dat, setN, pin_0, pin_s, np_im, np_un, np_ow, iteS, tstF, blO, nxS, dropS, mutF, mutO, thaw, tupF, lstF, tupD, lstD, andF, orF, notF, andV, orV, notV, ifF, tgS, tupU, consT, nameT, nilT, parS, slF, noO, parO, intO, slO, isnD, unS, out, retV, negD, subD, intD, unF, op1, truF, truO, tru, parN, consL, addL, nilL, parM, setL, slOf, nrm, two, ltD, gtD, leD, geD, g1P, a]
abbrev bads : List D := [.none, .tuple [.int 1, .int 0], .tuple [.int 1, .int 2], .tuple [.int 100, .int 1], .tuple [.int (-1), .int 1], .tuple [.int 1, .bool true], .tuple [.bool true, .int 1], .tuple [.int 1], .tuple [.int 1, .int 1, .int 1], .str "a1", .int 7]
theorem bads_no {d : D} (h : d ∈ bads) : sl1 d = none := by
  simp only [bads, List.mem_cons, List.not_mem_nil, or_false] at h
  rcases h with rfl | rfl | rfl | rfl | rfl | rfl | rfl | rfl | rfl | rfl | rfl <;> rfl
abbrev FD : List D := (List.range 7).map (fun j => erD "word" (ksW j))
abbrev FT : List D := (List.range 7).map (fun j => erD "word" (ksW j)) ++ [erD "text" (-1)]
theorem shw_lst {k W : Nat} {ds : List D} (h : Rp k W (.list ds)) (hk : k ≤ 64) (hW : W ≤ 2 ^ 20) : ∃ x, shw (.list ds) = some x := by
  have f : (PyData.list ds).shown.length ≤ sizeLine := PyData.shown_fits (B := 13) (by decide) (by decide) h.ls (Nat.le_trans h.wg hW)
  refine ⟨(PyData.list ds).shown, ?_⟩
  show (if (PyData.list ds).showable = true ∧ (PyData.list ds).hasDict = false ∧ (PyData.list ds).depth ≤ 64 ∧ (PyData.list ds).shown.length ≤ sizeLine then some (PyData.list ds).shown else none) = _
  rw [if_pos ⟨h.sw, h.hd, Nat.le_trans h.dp hk, f⟩]
theorem er_rp (l : List (Str × Int)) (hl : l.length ≤ 1000) (h : ∀ p ∈ l, (p.1 = "word" ∨ p.1 = "text") ∧ Sm p.2) : ∃ x, reprD [.list (l.map fun p => erD p.1 p.2)] = some (.im (.str x)) := by
  have := rp_lst (k := 1) (W := 82) (ds := l.map fun p => erD p.1 p.2) fun d hd => by
    obtain ⟨p, hp, rfl⟩ := List.mem_map.mp hd
    obtain ⟨h1, h2⟩ := h p hp
    refine rp_tup (k := 0) (W := 40) (ds := [.str p.1, .int p.2]) fun d hd => ?_
    rcases List.mem_cons.mp hd with rfl | hd
    · rcases h1 with e | e <;> rw [e] <;> exact (rp_str _ (by decide +kernel)).mono (Nat.le_refl _) (by decide +kernel)
    · rw [List.mem_singleton] at hd
      subst hd
      exact rp_int h2
  have hs : (82 + 1) * (l.map fun p => erD p.1 p.2).length ≤ 2 ^ 20 := by rw [List.length_map]; omega
  obtain ⟨x, hx⟩ : ∃ x, shw (.list (l.map fun p => erD p.1 p.2)) = some x := by
    exact shw_lst this (by decide) hs
  exact ⟨x, reprD_of hx⟩
theorem rng_nm (n : Nat) (hn : n < 2 ^ 62) {F : Rho → Ou Rs} {ρ ρ' : Rho} (h : bd (frz (F ρ)) dat = .ok (.int (n : Int)) ρ') : rng1I F ρ = .ok (idx 0 n) ρ' := rng1_of h hn
theorem idx_in {n : Nat} {d : D} (h : d ∈ idx 0 n) : ∃ j : Nat, j < n ∧ d = .int (j : Int) := by
  unfold idx at h
  obtain ⟨j, hj, rfl⟩ := List.mem_map.mp h
  rw [List.mem_range'_1] at hj
  exact ⟨j, by omega, rfl⟩
def fW (d : D) : D := match d with
  | .int i => if i = 7 then erD "text" (-1) else erD "word" (ksW i.toNat)
  | _ => .none
theorem fW_map : (idx 0 7).map fW = ((List.range 7).map fun j => (("word" : Str), ksW j)).map (fun p => erD p.1 p.2) := by rfl
theorem fW_map8 : (idx 0 8).map fW = (((List.range 7).map fun j => (("word" : Str), ksW j)) ++ [(("text" : Str), (-1 : Int))]).map (fun p => erD p.1 p.2) := by rfl
theorem c_rf (d : D) (n : Nat) (i : Nat) (Fd : Rho → Ou Rs) (ρ : Rho) (h7 : ρ.length = 8) (hw : wipeR ρ [7] = ρ) (hp : plainAt ρ [7] = true) (hn : pinned ρ 7 = false) (hF : ∀ y, Fd (ρ.set 7 (.im y)) = .ok (.im d) (ρ.set 7 (.im y)))
    (hs : ∀ y, wipeR (ρ.set 7 (.im y)) [7] = ρ ∧ plainAt (ρ.set 7 (.im y)) [7] = true) (hv : ∀ y, varF 7 (ρ.set 7 (.im y)) = .ok (.im y) (ρ.set 7 (.im y))) (hu : unwipe ρ ρ [7] = ρ) (hn7 : n ≤ 8)
    (hd : badW d) (ht : n = 8 → textOf d = .none) : lcF (rng1I (cF (.int (n : Int)))) (nameT 7) yesF (clF 2 m_law_refused (consD (varF 7) (consD Fd nilD))) [7] ρ = .ok (.fr ((idx 0 n).map fW)) ρ := by
  have I : rng1I (cF (.int (n : Int))) ρ = .ok (idx 0 n) ρ := rng_nm n (by omega) rfl
  unfold lcF
  rw [I, bd_ok, if_pos hp, hw, lcL_map (f := fW) (idx 0 n) [] (fun e he => ?_) (by simp [idx, sizeLine_eq]; omega)]
  · rw [bd_ok, hu]
    rfl
  · obtain ⟨j, hj, rfl⟩ := idx_in he
    refine ⟨ρ.set 7 (.im (.int (j : Int))), ρ.set 7 (.im (.int (j : Int))), by unfold nameT; rw [hn, if_neg Bool.false_ne_true], ?_, (hs _).2, (hs _).1⟩
    have e : foE 2 m_law_refused [.int (j : Int), d] (ρ.set 7 (.im (.int (j : Int)))) = .ok (.im (fW (.int (j : Int)))) (ρ.set 7 (.im (.int (j : Int)))) := by
      by_cases h8 : j = 7
      · subst h8
        exact v_rfT (ht (by omega)) _
      · have := v_rfW hd j (by omega) (ρ.set 7 (.im (.int (j : Int))))
        rw [this]
        have e7 : ¬ (j : Int) = 7 := by omega
        simp [fW, e7]
    unfold clF
    have C : consD (varF 7) (consD Fd nilD) (ρ.set 7 (.im (.int (j : Int)))) = .ok [.int (j : Int), d] (ρ.set 7 (.im (.int (j : Int)))) := by
      unfold consD
      rw [hv]
      simp only [frz, bd, dat, hF, nilD]
    rw [C, bd_ok, e]
    rfl
theorem repr_found : ∃ x, reprD [.list ((idx 0 7).map fW ++ (idx 0 8).map fW)] = some (.im (.str x)) := by
  rw [fW_map, fW_map8, ← List.map_append]
  exact er_rp _ (by decide) (by
    intro p hp
    have : p ∈ ([("word", -1), ("word", 0), ("word", 1), ("text", -1)] : List (Str × Int)) := by
      revert p; decide +kernel
    simp only [List.mem_cons, List.not_mem_nil, or_false] at this
    rcases this with rfl | rfl | rfl | rfl
    · exact ⟨.inl rfl, by show Int.natAbs (-1) < 10 ^ 12; decide⟩
    ·  exact ⟨.inl rfl, by show Int.natAbs (0) < 10 ^ 12; decide⟩
    ·  exact ⟨.inl rfl, by show Int.natAbs (1) < 10 ^ 12; decide⟩
    ·  exact ⟨.inr rfl, by show Int.natAbs (-1) < 10 ^ 12; decide⟩)
end K01
end VL

namespace VL
open PySem PySem.Spec PyProof.Rows L2
open PySem.W (Datum Tup)

namespace K01
theorem lcL_step {T : Tg} {E : Rho → Ou Rs} {vs : List Nat} {d e : D} {ds acc : List D} {ρ ρ1 ρ2 ρ' : Rho} (h1 : T d ρ = some ρ1) (h2 : bd (frz (E ρ1)) dat = .ok e ρ2) (h3 : acc.length < sizeLine) (h4 : plainAt ρ2 vs = true) (h5 : wipeR ρ2 vs = ρ') :
    lcL T yesF E vs (d :: ds) acc ρ = lcL T yesF E vs ds (acc ++ [e]) ρ' := by
  rw [lcL, h1]
  simp only [yesF, bdn, if_true, h2, h4, and_true, h5]
  rw [if_pos h3]
abbrev V8 (B : Sl) (w : Wd) (b : D) (k : Int) (s f u c : Sl) : Rho := [B, .im (wt w), .im b, .im (.int k), s, f, u, c]
abbrev E_rr (F : Rho → Ou Rs) : Rho → Ou Rs := clF 2 m_law_refused (consD (varF 7) (consD F nilD))
theorem l_rf {B f u : Sl} {w : Wd} {b : D} {k : Int} {s : Sl} {d : D} {F : Rho → Ou Rs} (hF : ∀ y, bd (frz (F (V8 B w b k s f u y))) dat = .ok d (V8 B w b k s f u y)) (hd : badW d) (a m : Nat) (hm : a + m ≤ 8) (ht : a + m = 8 → textOf d = .none) (acc : List D) (ha : acc.length ≤ 100) :
    lcL (nameT 7) yesF (E_rr F) [7] (idx a m) acc (V8 B w b k s f u .un) = .ok (acc ++ (idx a m).map fW) (V8 B w b k s f u .un) := by
  refine lcL_map (f := fW) (idx a m) acc (fun e he => ?_) (by simp [idx, sizeLine_eq]; omega)
  obtain ⟨j, hj, rfl⟩ : ∃ j : Nat, j < a + m ∧ e = .int (j : Int) := by
    unfold idx at he
    obtain ⟨j, hj, rfl⟩ := List.mem_map.mp he
    rw [List.mem_range'_1] at hj
    exact ⟨j, by omega, rfl⟩
  refine ⟨V8 B w b k s f u (.im (.int (j : Int))), V8 B w b k s f u (.im (.int (j : Int))), rfl, ?_, rfl, rfl⟩
  have e : foE 2 m_law_refused [.int (j : Int), d] (V8 B w b k s f u (.im (.int (j : Int)))) = .ok (.im (fW (.int (j : Int)))) (V8 B w b k s f u (.im (.int (j : Int)))) := by
    by_cases h8 : j = 7
    · subst h8
      exact v_rfT (ht (by omega)) _
    · have := v_rfW hd j (by omega) (V8 B w b k s f u (.im (.int (j : Int))))
      rw [this]
      have e7 : ¬ (j : Int) = 7 := by omega
      simp [fW, e7]
  have C : consD (varF 7) (consD F nilD) (V8 B w b k s f u (.im (.int (j : Int)))) = .ok [.int (j : Int), d] (V8 B w b k s f u (.im (.int (j : Int)))) := by
    show bd (bd (frz (.ok (.im (.int (j : Int))) _)) dat) _ = _
    simp only [frz, bd_ok, dat]
    show bd (bd (bd (frz (F _)) dat) _) _ = _
    rw [hF]
    rfl
  show bd (frz (bd (consD (varF 7) (consD F nilD) _) _)) dat = _
  rw [C, bd_ok, e]
  rfl
theorem spoilt_bad {w : Wd} {b : D} (hb : sl1 b = none) (k : Nat) : badW (.list ((w.take k).map pr ++ [b] ++ (w.drop k).map pr)) := .inr ⟨_, rfl, b, by simp, hb⟩
theorem v_rr {n : Nat} {c : Int × Int × Int} (h : Bx n c) (hn : n + 5 < 999) {w : Wd} (hw : w.length ≤ 14) : ∃ c', Bx (n + 2) c' ∧
    ∀ (ρ : Rho) (i : Nat) (b : Bool), ρ[i]? = some (.ow b (bx c)) → foI 2 m_law_refusals_right i [wt w] ρ = .ok (.im (.bool true)) (ρ.set i (.ow b (bx c'))) := by
  obtain ⟨b, c1, hb, b1, e1⟩ := v_pick h (by omega) (es := bads) (by decide) (by decide)
  obtain ⟨d0, d1⟩ := dig_b c1 (show (0 : Int) < (w.length : Int) + 1 by omega)
  obtain ⟨k, hk⟩ : ∃ k : Nat, dig c1 ((w.length : Int) + 1) = (k : Int) := ⟨_, (Int.toNat_of_nonneg d0).symm⟩
  have hkw : k ≤ w.length := by omega
  have b2 := box_ok b1 (show (0 : Int) < (w.length : Int) + 1 by omega)
  have nb := bads_no hb
  generalize hsp : (w.take k).map pr ++ [b] ++ (w.drop k).map pr = sp
  have bw : badW (.list sp) := hsp ▸ spoilt_bad nb k
  have z0 : asgS 2 (clI 2 m_law_pick 0 (consD (lstF (consD (cF .none) (consD (tupF (consD (cF (.int 1)) (consD (cF (.int 0)) nilD))) (consD (tupF (consD (cF (.int 1)) (consD (cF (.int 2)) nilD))) (consD (tupF (consD (cF (.int 100)) (consD (cF (.int 1)) nilD))) (consD (tupF (consD (opF subD (cF (.int 0)) (cF (.int 1))) (consD (cF (.int 1)) nilD))) (consD (tupF (consD (cF (.int 1)) (consD (cF (.bool true)) nilD))) (consD (tupF (consD (cF (.bool true)) (consD (cF (.int 1)) nilD))) (consD (tupF (consD (cF (.int 1)) nilD)) (consD (tupF (consD (cF (.int 1)) (consD (cF (.int 1)) (consD (cF (.int 1)) nilD)))) (consD (cF (.str "a1")) (consD (cF (.int 7)) nilD)))))))))))) nilD)) [.ow true (bx c), .im (wt w), .un, .un, .un, .un, .un, .un] = .nx [.ow true (bx c1), .im (wt w), .im b, .un, .un, .un, .un, .un] := by
    have t := e1 [.ow true (bx c), .im (wt w), .un, .un, .un, .un, .un, .un] 0 true rfl
    simp [retS, seqS, asgS, clF, clI, clKF, isOw, consD, consF, callF, call1, drs, opF, op2, unF, op1, varF, cF, nilD, nilF, bd, bs, frz, dr, fin, dat, setN, pin_0, pin_s, np_im, np_un, np_ow, iteS, tstF, blO, nxS, dropS, mutF, mutO, thaw, tupF, lstF, tupD, lstD, andF, orF, notF, andV, orV, notV, ifF, tgS, tupU, consT, nameT, nilT, parS, slF, noO, parO, intO, slO, isnD, unS, out, retV, negD, subD, intD, unF, op1, truF, truO, tru, parN, consL, addL, nilL, parM, setL, slOf, nrm, two, ltD, gtD, leD, geD, sizeLine_eq, t, pinned]
  have z1 : asgS 3 (clI 2 m_law_take 0 (consD (opF addD (callF lenD (consF (varF 1) nilF)) (cF (.int 1))) nilD)) [.ow true (bx c1), .im (wt w), .im b, .un, .un, .un, .un, .un] = .nx [.ow true (bx (box c1 ((w.length : Int) + 1))), .im (wt w), .im b, .im (.int (k : Int)), .un, .un, .un, .un] := by
    have t := @v_take (n + 1) c1 b1 (by omega) ((w.length : Int) + 1) (by omega) (by omega) [.ow true (bx c1), .im (wt w), .im b, .un, .un, .un, .un, .un] 0 true rfl
    rw [hk] at t
    have l : lenD [wt w] = some (.im (.int (w.length : Nat))) := by simp [lenD, wt]
    simp [retS, seqS, asgS, clF, clI, clKF, isOw, consD, consF, callF, call1, drs, opF, op2, unF, op1, varF, cF, nilD, nilF, bd, bs, frz, dr, fin, dat, setN, pin_0, pin_s, np_im, np_un, np_ow, iteS, tstF, blO, nxS, dropS, mutF, mutO, thaw, tupF, lstF, tupD, lstD, andF, orF, notF, andV, orV, notV, ifF, tgS, tupU, consT, nameT, nilT, parS, slF, noO, parO, intO, slO, isnD, unS, out, retV, negD, subD, intD, unF, op1, truF, truO, tru, parN, consL, addL, nilL, parM, setL, slOf, nrm, two, ltD, gtD, leD, geD, l, addD, t, pinned]
  generalize box c1 ((w.length : Int) + 1) = c2 at *
  have z2 : asgS 4 (opF addD (opF addD (callF listD (consF (slF (varF 1) noO (parO (varF 3))) nilF)) (lstF (consD (varF 2) nilD))) (callF listD (consF (slF (varF 1) (parO (varF 3)) noO) nilF))) [.ow true (bx c2), .im (wt w), .im b, .im (.int (k : Int)), .un, .un, .un, .un] = .nx (V8 (.ow true (bx c2)) w b k (.ow false sp) .un .un .un) := by
    have s1 : slD (wt w) none (some (k : Int)) = some (.im (.tuple ((w.take k).map pr))) := by
      have e : cutD (w.map pr) none (some (k : Int)) = (w.map pr).take k := cut_to (by rw [List.length_map]; exact hkw)
      simp [slD, wt, e, List.map_take]
    have s2 : slD (wt w) (some (k : Int)) none = some (.im (.tuple ((w.drop k).map pr))) := by
      have e : cutD (w.map pr) (some (k : Int)) none = (w.map pr).drop k := cut_from (by rw [List.length_map]; exact hkw)
      simp [slD, wt, e, List.map_drop]
    have a1 : addD (.list ((w.take k).map pr)) (.list [b]) = some (.fr ((w.take k).map pr ++ [b])) := by
      have : ((w.take k).map pr).length + [b].length ≤ sizeLine := by rw [sizeLine_eq, List.length_map, List.length_take]; simp; omega
      simp only [addD, this, if_true]
    have a2 : addD (.list ((w.take k).map pr ++ [b])) (.list ((w.drop k).map pr)) = some (.fr sp) := by
      have : ((w.take k).map pr ++ [b]).length + ((w.drop k).map pr).length ≤ sizeLine := by rw [sizeLine_eq]; simp; omega
      simp only [addD, this, if_true, hsp]
    clear hsp
    generalize (w.take k).map pr = A at *
    generalize (w.drop k).map pr = B at *
    simp [retS, seqS, asgS, clF, clI, clKF, isOw, consD, consF, callF, call1, drs, opF, op2, unF, op1, varF, cF, nilD, nilF, bd, bs, frz, dr, fin, dat, setN, pin_0, pin_s, np_im, np_un, np_ow, iteS, tstF, blO, nxS, dropS, mutF, mutO, thaw, tupF, lstF, tupD, lstD, andF, orF, notF, andV, orV, notV, ifF, tgS, tupU, consT, nameT, nilT, parS, slF, noO, parO, intO, slO, isnD, unS, out, retV, negD, subD, intD, unF, op1, truF, truO, tru, parN, consL, addL, nilL, parM, setL, slOf, nrm, two, ltD, gtD, leD, geD, s1, s2, listD, sizeLine_eq, a1, a2, pinned]
  have dt : textOf .none = .none := rfl
  have bn : badW .none := .inl rfl
  have F4 : ∀ y, bd (frz (varF 4 (V8 (.ow true (bx c2)) w b k (.im (.list sp)) .un .un y))) dat = .ok (.list sp) (V8 (.ow true (bx c2)) w b k (.im (.list sp)) .un .un y) := fun y => rfl
  have L1 : lcF (rng1I (cF (.int 7))) (nameT 7) yesF (E_rr (varF 4)) [7] (V8 (.ow true (bx c2)) w b k (.ow false sp) .un .un .un) = .ok (.fr ((idx 0 7).map fW)) (V8 (.ow true (bx c2)) w b k (.im (.list sp)) .un .un .un) := by
    have I : rng1I (cF (.int 7)) (V8 (.ow true (bx c2)) w b k (.ow false sp) .un .un .un) = .ok (idx 0 7) (V8 (.ow true (bx c2)) w b k (.ow false sp) .un .un .un) := rng1_of (n := 7) rfl (by decide)
    have e0 := v_rfW bw 0 (by decide) (V8 (.ow true (bx c2)) w b k (.im (.list sp)) .un .un (.im (.int 0)))
    have st : bd (frz (E_rr (varF 4) (V8 (.ow true (bx c2)) w b k (.ow false sp) .un .un (.im (.int 0))))) dat = .ok (fW (.int 0)) (V8 (.ow true (bx c2)) w b k (.im (.list sp)) .un .un (.im (.int 0))) := by
      show bd (frz (bd (consD (varF 7) (consD (varF 4) nilD) _) _)) dat = _
      have C : consD (varF 7) (consD (varF 4) nilD) (V8 (.ow true (bx c2)) w b k (.ow false sp) .un .un (.im (.int 0))) = .ok [.int 0, .list sp] (V8 (.ow true (bx c2)) w b k (.im (.list sp)) .un .un (.im (.int 0))) := rfl
      rw [C, bd_ok]
      have e0 : foE 2 m_law_refused [.int 0, .list sp] (V8 (.ow true (bx c2)) w b k (.im (.list sp)) .un .un (.im (.int 0))) = _ := e0
      rw [e0]
      rfl
    unfold lcF
    rw [I, bd_ok, if_pos (show plainAt _ _ = true from rfl), show wipeR (V8 (.ow true (bx c2)) w b k (.ow false sp) .un .un .un) [7] = V8 (.ow true (bx c2)) w b k (.ow false sp) .un .un .un from rfl, idx_succ,
      lcL_step (ρ' := V8 (.ow true (bx c2)) w b k (.im (.list sp)) .un .un .un) (show nameT 7 (.int ((0 : Nat) : Int)) (V8 (.ow true (bx c2)) w b k (.ow false sp) .un .un .un) = some (V8 (.ow true (bx c2)) w b k (.ow false sp) .un .un (.im (.int 0))) from rfl) st (by decide) rfl rfl,
      l_rf F4 bw 1 6 (by decide) (fun z => absurd z (by decide)) _ (by decide)]
    rfl
  have F0 : ∀ y, bd (frz (cF .none (V8 (.ow true (bx c2)) w b k (.im (.list sp)) .un .un y))) dat = .ok .none (V8 (.ow true (bx c2)) w b k (.im (.list sp)) .un .un y) := fun y => rfl
  have L2 : lcF (rng1I (cF (.int 8))) (nameT 7) yesF (E_rr (cF .none)) [7] (V8 (.ow true (bx c2)) w b k (.im (.list sp)) .un .un .un) = .ok (.fr ((idx 0 8).map fW)) (V8 (.ow true (bx c2)) w b k (.im (.list sp)) .un .un .un) := by
    have I : rng1I (cF (.int 8)) (V8 (.ow true (bx c2)) w b k (.im (.list sp)) .un .un .un) = .ok (idx 0 8) (V8 (.ow true (bx c2)) w b k (.im (.list sp)) .un .un .un) := rng1_of (n := 8) rfl (by decide)
    unfold lcF
    rw [I, bd_ok, if_pos (show plainAt _ _ = true from rfl), show wipeR (V8 (.ow true (bx c2)) w b k (.im (.list sp)) .un .un .un) [7] = V8 (.ow true (bx c2)) w b k (.im (.list sp)) .un .un .un from rfl,
      l_rf F0 bn 0 8 (by decide) (fun _ => dt) [] (by decide)]
    rfl
  have z3 : asgS 5 (opF addD (lcF (rng1I (cF (.int 7))) (nameT 7) yesF (E_rr (varF 4)) [7]) (lcF (rng1I (cF (.int 8))) (nameT 7) yesF (E_rr (cF .none)) [7])) (V8 (.ow true (bx c2)) w b k (.ow false sp) .un .un .un) = .nx (V8 (.ow true (bx c2)) w b k (.im (.list sp)) (.ow false ((idx 0 7).map fW ++ (idx 0 8).map fW)) .un .un) := by
    have a : addD (.list ((idx 0 7).map fW)) (.list ((idx 0 8).map fW)) = some (.fr ((idx 0 7).map fW ++ (idx 0 8).map fW)) := by
      have : ((idx 0 7).map fW).length + ((idx 0 8).map fW).length ≤ sizeLine := by decide
      simp only [addD, this, if_true]
    simp only [asgS, opF, L1, L2, frz, bd, op2, dr, a, fin, bs]
    rfl
  obtain ⟨x, hx⟩ := repr_found
  have z4 : asgS 6 (opF addD (opF addD (opF mulLD (lstF (consD (tupF (consD (cF (.str "word")) (consD (opF subD (cF (.int 0)) (cF (.int 1))) nilD))) nilD)) (cF (.int 2))) (lstF (consD (tupF (consD (cF (.str "word")) (consD (cF (.int 0)) nilD))) (consD (tupF (consD (cF (.str "word")) (consD (cF (.int 1)) nilD))) nilD)))) (opF mulLD (lstF (consD (tupF (consD (cF (.str "word")) (consD (opF subD (cF (.int 0)) (cF (.int 1))) nilD))) nilD)) (cF (.int 3)))) (V8 (.ow true (bx c2)) w b k (.im (.list sp)) (.ow false ((idx 0 7).map fW ++ (idx 0 8).map fW)) .un .un) =
      .nx (V8 (.ow true (bx c2)) w b k (.im (.list sp)) (.ow false ((idx 0 7).map fW ++ (idx 0 8).map fW)) (.ow false ((idx 0 7).map fW)) .un) := by rfl
  have z5 : retS (opF eqSD (callF reprD (consF (varF 5) nilF)) (callF reprD (consF (opF addD (opF addD (varF 6) (varF 6)) (lstF (consD (tupF (consD (cF (.str "text")) (consD (opF subD (cF (.int 0)) (cF (.int 1))) nilD))) nilD))) nilF))) (V8 (.ow true (bx c2)) w b k (.im (.list sp)) (.ow false ((idx 0 7).map fW ++ (idx 0 8).map fW)) (.ow false ((idx 0 7).map fW)) .un) =
      .rt (.im (.bool true)) (V8 (.ow true (bx c2)) w b k (.im (.list sp)) (.ow false ((idx 0 7).map fW ++ (idx 0 8).map fW)) (.ow false ((idx 0 7).map fW)) .un) := by
    have A : callF reprD (consF (varF 5) nilF) (V8 (.ow true (bx c2)) w b k (.im (.list sp)) (.ow false ((idx 0 7).map fW ++ (idx 0 8).map fW)) (.ow false ((idx 0 7).map fW)) .un) = .ok (.im (.str x)) (V8 (.ow true (bx c2)) w b k (.im (.list sp)) (.ow false ((idx 0 7).map fW ++ (idx 0 8).map fW)) (.ow false ((idx 0 7).map fW)) .un) := by
      show bd (.ok [Rs.sl 5] _) (call1 reprD) = _
      show fin (reprD [.list ((idx 0 7).map fW ++ (idx 0 8).map fW)]) _ = _
      rw [hx]
      rfl
    have Bq : callF reprD (consF (opF addD (opF addD (varF 6) (varF 6)) (lstF (consD (tupF (consD (cF (.str "text")) (consD (opF subD (cF (.int 0)) (cF (.int 1))) nilD))) nilD))) nilF) (V8 (.ow true (bx c2)) w b k (.im (.list sp)) (.ow false ((idx 0 7).map fW ++ (idx 0 8).map fW)) (.ow false ((idx 0 7).map fW)) .un) = .ok (.im (.str x)) (V8 (.ow true (bx c2)) w b k (.im (.list sp)) (.ow false ((idx 0 7).map fW ++ (idx 0 8).map fW)) (.ow false ((idx 0 7).map fW)) .un) := by
      show fin (reprD [.list ((idx 0 7).map fW ++ (idx 0 8).map fW)]) _ = _
      rw [hx]
      rfl
    simp only [retS, opF, A, Bq, frz, bd, op2, dr, eqSD, fin, bs, decide_true, beq_self_eq_true, if_true]
  refine ⟨c2, b2.mono (by omega), fun ρ i bb hi => foI_of (r := [.im (wt w), .im b, .im (.int (k : Int)), .im (.list sp), .ow false ((idx 0 7).map fW ++ (idx 0 8).map fW), .ow false ((idx 0 7).map fW), .un]) ?_ rfl hi⟩
  unfold G_law_refusals_right
  show seqS _ _ [.ow true (bx c), .im (wt w), .un, .un, .un, .un, .un, .un] = _
  rw [seq_nx z0, seq_nx z1, seq_nx z2, seq_nx z3, seq_nx z4]
  exact z5
end K01
end VL

namespace VL
open PySem PySem.Spec PyProof.Rows L2
open PySem.W (Datum Tup)

namespace K01
/-! ### what is struck, in any order -/
def und (p q : P2) : Prop := p.1 = q.1 ∧ p.2 ≠ q.2
instance (p q : P2) : Decidable (und p q) := by unfold und; infer_instance
def wa (w : Wd) (a : Nat) : P2 := w.getD a (0, 0)
inductive Rd (w : Wd) : List Nat → List (Nat × Nat) → Prop
  | base : Rd w (List.range w.length) []
  | step {l1 l2 : List Nat} {a b : Nat} {ps : List (Nat × Nat)} (h : Rd w (l1 ++ a :: b :: l2) ps) (u : und (wa w a) (wa w b)) : Rd w (l1 ++ l2) (ps ++ [(a, b)])
def plc (ps : List (Nat × Nat)) : List Nat := ps.flatMap fun p => [p.1, p.2]
theorem plc_app (p q : List (Nat × Nat)) : plc (p ++ q) = plc p ++ plc q := by simp [plc]
theorem plc_in {ps : List (Nat × Nat)} {k : Nat} : k ∈ plc ps ↔ ∃ p ∈ ps, k = p.1 ∨ k = p.2 := by simp [plc]
structure Fit (w : Wd) (l : List Nat) (ps : List (Nat × Nat)) : Prop where
  perm : (l ++ plc ps).Perm (List.range w.length)
  asc : l.Pairwise (· < ·)
  pair : ∀ p ∈ ps, p.1 < p.2 ∧ und (wa w p.1) (wa w p.2)
  out : ∀ p ∈ ps, ∀ x ∈ l, ¬ (p.1 < x ∧ x < p.2)
  inn : ∀ p ∈ ps, ∀ k, p.1 < k → k < p.2 → ∃ q ∈ ps, p.1 < q.1 ∧ q.1 < q.2 ∧ q.2 < p.2 ∧ (k = q.1 ∨ k = q.2)
  eqv : Eqv (l.map (wa w)) w
theorem range_wa (w : Wd) : (List.range w.length).map (wa w) = w := by
  apply List.ext_getElem
  · simp
  · intro i h1 h2
    simp [wa, List.getD_eq_getElem?_getD, h2]
theorem Rd.fit {w : Wd} (g : Sgn w) {l : List Nat} {ps : List (Nat × Nat)} (h : Rd w l ps) : Fit w l ps := by
  induction h with
  | base =>
    refine ⟨by simp [plc], List.pairwise_lt_range, fun _ z => (nomatch z), fun _ z => (nomatch z), fun _ z => (nomatch z), ?_⟩
    rw [range_wa]
    exact Eqv.refl w
  | step h u ih =>
    rename_i l1 l2 a b ps
    obtain ⟨i1, i2, i3, i4, i5, i6⟩ := ih
    have s := List.pairwise_append.mp i2
    have s2 := List.pairwise_cons.mp s.2.1
    have s3 := List.pairwise_cons.mp s2.2
    have hab : a < b := s2.1 b List.mem_cons_self
    have mem : ∀ x ∈ l1 ++ l2, x ∈ l1 ++ a :: b :: l2 := fun x hx => by
      rcases List.mem_append.mp hx with z | z
      · exact List.mem_append_left _ z
      · exact List.mem_append_right _ (List.mem_cons_of_mem _ (List.mem_cons_of_mem _ z))
    have nod : (l1 ++ a :: b :: l2 ++ plc ps).Nodup := i1.nodup_iff.mpr List.nodup_range
    have pm : (l1 ++ l2 ++ plc (ps ++ [(a, b)])).Perm (l1 ++ a :: b :: l2 ++ plc ps) := by
      rw [plc_app]
      show (l1 ++ l2 ++ (plc ps ++ [a, b])).Perm _
      have e1 : (l1 ++ l2 ++ (plc ps ++ [a, b])).Perm ([a, b] ++ (l1 ++ l2 ++ plc ps)) := by
        rw [← List.append_assoc]
        exact List.perm_append_comm
      have e2 : (l1 ++ a :: b :: l2 ++ plc ps).Perm ([a, b] ++ (l1 ++ l2 ++ plc ps)) := by
        have : l1 ++ a :: b :: l2 ++ plc ps = l1 ++ ([a, b] ++ (l2 ++ plc ps)) := by simp
        rw [this]
        have e3 := (List.perm_append_comm (l₁ := l1) (l₂ := [a, b])).append_right (l2 ++ plc ps)
        simpa [List.append_assoc] using e3
      exact e1.trans e2.symm
    have btw : ∀ x ∈ l1 ++ l2, ¬ (a < x ∧ x < b) := fun x hx => by
      rcases List.mem_append.mp hx with z | z
      · have := s.2.2 x z a List.mem_cons_self
        omega
      · have := s3.1 x z
        omega
    refine ⟨pm.trans i1, ?_, fun p hp => ?_, fun p hp x hx => ?_, fun p hp k k1 k2 => ?_, ?_⟩
    · refine List.pairwise_append.mpr ⟨s.1, s3.2, fun x hx y hy => s.2.2 x hx y (List.mem_cons_of_mem _ (List.mem_cons_of_mem _ hy))⟩
    · rcases List.mem_append.mp hp with z | z
      · exact i3 p z
      · rw [List.mem_singleton] at z
        subst z
        exact ⟨hab, u⟩
    · rcases List.mem_append.mp hp with z | z
      · exact i4 p z x (mem x hx)
      · rw [List.mem_singleton] at z
        subst z
        exact btw x hx
    · rcases List.mem_append.mp hp with z | z
      · obtain ⟨q, hq, r⟩ := i5 p z k k1 k2
        exact ⟨q, List.mem_append_left _ hq, r⟩
      · rw [List.mem_singleton] at z
        subst z
        have k1 : a < k := k1
        have k2 : k < b := k2
        have hbn : b < w.length := by
          have : b ∈ List.range w.length := i1.mem_iff.mp (by simp)
          exact List.mem_range.mp this
        have kin : k ∈ l1 ++ a :: b :: l2 ++ plc ps := i1.mem_iff.mpr (List.mem_range.mpr (by omega))
        have kp : k ∈ plc ps := by
          rcases List.mem_append.mp kin with z | z
          · exfalso
            rcases List.mem_append.mp z with y | y
            · exact btw k (List.mem_append_left _ y) ⟨k1, k2⟩
            · rcases List.mem_cons.mp y with y | y
              · omega
              · rcases List.mem_cons.mp y with y | y
                · omega
                · exact btw k (List.mem_append_right _ y) ⟨k1, k2⟩
          · exact z
        obtain ⟨q, hq, kq⟩ := plc_in.mp kp
        have q1 := (i3 q hq).1
        have oa := i4 q hq a (by simp)
        have ob := i4 q hq b (by simp)
        have dis : ∀ x ∈ l1 ++ a :: b :: l2, x ≠ q.1 ∧ x ≠ q.2 := fun x hx => by
          have d := (List.nodup_append.mp nod).2.2 x hx
          exact ⟨fun e => d _ (plc_in.mpr ⟨q, hq, .inl rfl⟩) e, fun e => d _ (plc_in.mpr ⟨q, hq, .inr rfl⟩) e⟩
        have da := dis a (by simp)
        have db := dis b (by simp)
        refine ⟨q, List.mem_append_left _ hq, ?_, q1, ?_, kq⟩
        · show a < q.1
          rcases kq with e | e <;> omega
        · show q.2 < b
          rcases kq with e | e <;> omega
    · refine Eqv.trans ?_ i6
      have sg : ∀ l : List Nat, (∀ x ∈ l, x < w.length) → Sgn (l.map (wa w)) := fun l hl p hp => by
        obtain ⟨x, hx, rfl⟩ := List.mem_map.mp hp
        have hxl := hl x hx
        have : wa w x = w[x] := by simp [wa, List.getD_eq_getElem?_getD, hxl]
        rw [this]
        exact g _ (List.getElem_mem hxl)
      have lt : ∀ x ∈ l1 ++ a :: b :: l2, x < w.length := fun x hx => List.mem_range.mp (i1.mem_iff.mp (List.mem_append_left _ hx))
      have sa := sg [a] (fun x hx => lt x (by rw [List.mem_singleton] at hx; subst hx; simp)) (wa w a) (by simp)
      have sb := sg [b] (fun x hx => lt x (by rw [List.mem_singleton] at hx; subst hx; simp)) (wa w b) (by simp)
      have eb : wa w b = ((wa w a).1, -(wa w a).2) := by
        refine Prod.ext u.1.symm ?_
        have := u.2
        show (wa w b).2 = -(wa w a).2
        omega
      have e1 : Eqv [wa w a, wa w b] [] := by
        have := eqv_inv (w := [wa w a]) (fun p hp => by rw [List.mem_singleton] at hp; subst hp; exact sa)
        rw [eb]
        exact this
      have e2 := e1.mid (l1.map (wa w)) (l2.map (wa w)) (sg l1 fun x hx => lt x (List.mem_append_left _ hx))
      intro st c d
      have e3 := e2 st c d
      simp only [List.append_nil] at e3
      rw [List.map_append, ← e3]
      simp
end K01
end VL

namespace VL
open PySem PySem.Spec PyProof.Rows L2
open PySem.W (Datum Tup)

namespace K01
abbrev nd (l : List Nat) : List D := l.map fun (a : Nat) => PyData.int (a : Int)
abbrev tp (p : Nat × Nat) : P2 := ((p.1 : Int), (p.2 : Int))
abbrev b_sp : Rho → So := iteS (andF (truF (varF 1)) (tstF (clF 2 m_undo_each_other (consD (opF ixD (varF 0) (opF ixD (varF 1) (unF negD (cF (.int 1))))) (consD (varF 4) nilD)))))
  (dropS (mutF apD 2 (consD (tupF (consD (mutF popD 1 nilD) (consD (varF 3) nilD))) nilD)))
  (dropS (mutF apD 1 (consD (varF 3) nilD)))
theorem nil_snocN (l : List Nat) : l = [] ∨ ∃ a x, l = a ++ [x] := by
  rcases List.eq_nil_or_concat l with h | ⟨a, x, h⟩
  · exact .inl h
  · exact .inr ⟨a, x, by rw [h]; simp⟩
theorem ix_wt {w : Wd} {a : Nat} (h : a < w.length) : ixD (wt w) (.int (a : Nat)) = some (.im (pr (wa w a))) := by
  refine ixD_t ?_
  rw [List.getElem?_map]
  simp [wa, List.getD_eq_getElem?_getD, h]
theorem t_sp {w : Wd} {u : List Nat} {ps : List (Nat × Nat)} {m : Nat} (hz : w.length ≤ 1000) (hm : m < w.length) (hu : ∀ x ∈ u, x < w.length) (hl : u.length ≤ 1000) (hp : ps.length ≤ 1000) (b : Bool) :
    (∃ v a, u = v ++ [a] ∧ und (wa w a) (wa w m) ∧ b_sp [.im (wt w), .ow false (nd u), .ow false (ps.map fun p => pr (tp p)), .im (.int (m : Int)), .im (pr (wa w m))] = .nx [.im (wt w), .ow false (nd v), .ow false ((ps ++ [(a, m)]).map fun p => pr (tp p)), .im (.int (m : Int)), .im (pr (wa w m))]) ∨
    ((∀ v a, u = v ++ [a] → ¬ und (wa w a) (wa w m)) ∧ b_sp [.im (wt w), .ow false (nd u), .ow false (ps.map fun p => pr (tp p)), .im (.int (m : Int)), .im (pr (wa w m))] = .nx [.im (wt w), .ow false (nd (u ++ [m])), .ow false (ps.map fun p => pr (tp p)), .im (.int (m : Int)), .im (pr (wa w m))]) := by
  have sp : ps.length < 16777216 := by omega
  have su : u.length < 16777216 := by omega
  rcases nil_snocN u with rfl | ⟨v, a, rfl⟩
  · refine .inr ⟨fun v a e => by simp at e, ?_⟩
    simp [b_sp, retS, seqS, asgS, clF, clI, clKF, isOw, consD, consF, callF, call1, drs, opF, op2, unF, op1, varF, cF, nilD, nilF, bd, bs, frz, dr, fin, dat, setN, pin_0, pin_s, np_im, np_un, np_ow, iteS, tstF, blO, nxS, dropS, mutF, mutO, thaw, tupF, lstF, tupD, lstD, andF, orF, notF, andV, orV, notV, ifF, tgS, tupU, consT, nameT, nilT, parS, slF, noO, parO, intO, slO, isnD, unS, out, retV, negD, subD, intD, unF, op1, truF, truO, tru, parN, consL, addL, nilL, parM, setL, slOf, nrm, two, ltD, gtD, leD, geD, nd, sizeLine_eq, apD]
  · have e1 : ixD (.list (nd v ++ [.int (a : Int)])) (.int (-1)) = some (.im (.int (a : Int))) := ixD_last _ _
    have e2 := ix_wt (w := w) (hu a (by simp))
    have e3 := v_undo_each_other (wa w a) (wa w m)
    have nm : nd (v ++ [a]) = nd v ++ [.int (a : Int)] := by simp [nd]
    rw [nm]
    have sv : v.length + 1 < 16777216 := by simp at hl; omega
    generalize hN : nd v = N at *
    have hNl : N.length = v.length := by rw [← hN]; simp [nd]
    have pp : popD (N ++ [.int (a : Int)]) [] = some (.int (a : Int), N) := by simp [popD]
    have C : ∀ z : Bool, decide ((wa w a).1 = (wa w m).1 ∧ (wa w a).2 ≠ (wa w m).2) = z → andF (truF (varF 1)) (tstF (clF 2 m_undo_each_other (consD (opF ixD (varF 0) (opF ixD (varF 1) (unF negD (cF (.int 1))))) (consD (varF 4) nilD)))) [.im (wt w), .ow false (N ++ [.int (a : Int)]), .ow false (ps.map fun p => pr (tp p)), .im (.int (m : Int)), .im (pr (wa w m))] =
        .ok z [.im (wt w), .ow false (N ++ [.int (a : Int)]), .ow false (ps.map fun p => pr (tp p)), .im (.int (m : Int)), .im (pr (wa w m))] := fun z hz => by
      rw [hz] at e3
      simp [retS, seqS, asgS, clF, clI, clKF, isOw, consD, consF, callF, call1, drs, opF, op2, unF, op1, varF, cF, nilD, nilF, bd, bs, frz, dr, fin, dat, setN, pin_0, pin_s, np_im, np_un, np_ow, iteS, tstF, blO, nxS, dropS, mutF, mutO, thaw, tupF, lstF, tupD, lstD, andF, orF, notF, andV, orV, notV, ifF, tgS, tupU, consT, nameT, nilT, parS, slF, noO, parO, intO, slO, isnD, unS, out, retV, negD, subD, intD, unF, op1, truF, truO, tru, parN, consL, addL, nilL, parM, setL, slOf, nrm, two, ltD, gtD, leD, geD, e1, e2, e3]
    by_cases h : und (wa w a) (wa w m)
    · refine .inl ⟨v, a, rfl, h, ?_⟩
      rw [hN]
      unfold b_sp
      rw [ite_t (C true (decide_eq_true h))]
      simp [retS, seqS, asgS, clF, clI, clKF, isOw, consD, consF, callF, call1, drs, opF, op2, unF, op1, varF, cF, nilD, nilF, bd, bs, frz, dr, fin, dat, setN, pin_0, pin_s, np_im, np_un, np_ow, iteS, tstF, blO, nxS, dropS, mutF, mutO, thaw, tupF, lstF, tupD, lstD, andF, orF, notF, andV, orV, notV, ifF, tgS, tupU, consT, nameT, nilT, parS, slF, noO, parO, intO, slO, isnD, unS, out, retV, negD, subD, intD, unF, op1, truF, truO, tru, parN, consL, addL, nilL, parM, setL, slOf, nrm, two, ltD, gtD, leD, geD, pp, sizeLine_eq, apD, sp, pr, tp]
    · refine .inr ⟨fun v' a' e => ?_, ?_⟩
      · have e' := List.append_inj' e rfl
        have : a = a' := by simpa using e'.2
        subst this
        exact h
      · unfold b_sp
        rw [ite_f (C false (decide_eq_false h))]
        have sN : N.length + 1 < 16777216 := by omega
        have nn : nd (v ++ [a] ++ [m]) = N ++ [.int (a : Int), .int (m : Int)] := by rw [← hN]; simp [nd]
        rw [nn]
        simp [retS, seqS, asgS, clF, clI, clKF, isOw, consD, consF, callF, call1, drs, opF, op2, unF, op1, varF, cF, nilD, nilF, bd, bs, frz, dr, fin, dat, setN, pin_0, pin_s, np_im, np_un, np_ow, iteS, tstF, blO, nxS, dropS, mutF, mutO, thaw, tupF, lstF, tupD, lstD, andF, orF, notF, andV, orV, notV, ifF, tgS, tupU, consT, nameT, nilT, parS, slF, noO, parO, intO, slO, isnD, unS, out, retV, negD, subD, intD, unF, op1, truF, truO, tru, parN, consL, addL, nilL, parM, setL, slOf, nrm, two, ltD, gtD, leD, geD, sizeLine_eq, apD, sN]
theorem red_run : ∀ (x st : Wd), Red (x.reverse ++ st) → x.foldl push st = x.reverse ++ st
  | [], st, _ => rfl
  | p :: x, st, h => by
    rw [List.reverse_cons, List.append_assoc] at h ⊢
    have h2 : ∀ y : Wd, Red (y ++ (p :: st)) → Red (p :: st) := fun y => by
      induction y with
      | nil => exact id
      | cons q y ih => exact fun z => ih z.tail
    have hr := h2 _ h
    have e : push st p = p :: st := by
      cases st with
      | nil => rfl
      | cons q r => exact if_neg hr.1
    rw [List.foldl_cons, e]
    exact red_run x (p :: st) h
theorem l_sp {w : Wd} (hz : w.length ≤ 900) : ∀ (k m : Nat) (u : List Nat) (ps : List (Nat × Nat)) (y z : Sl), m + k = w.length → Fr y → Fr z → (∀ x ∈ u, x < m) → u.length + ps.length ≤ m → Rd w (u ++ List.range' m k) ps → Red (u.map (wa w)).reverse →
    ∃ u' ps' y' z', Rd w u' ps' ∧ Red (u'.map (wa w)).reverse ∧ ps'.length ≤ w.length ∧ forL (tupU 2 (consT (nameT 3) (consT (nameT 4) nilT))) b_sp (numD m ((w.drop m).map pr)) [.im (wt w), .ow false (nd u), .ow false (ps.map fun p => pr (tp p)), y, z] = .nx [.im (wt w), .ow false (nd u'), .ow false (ps'.map fun p => pr (tp p)), y', z']
  | 0, m, u, ps, y, z, hm, hy, hzz, hu, hl, hr, hd => by
    refine ⟨u, ps, y, z, by simpa using hr, hd, by omega, ?_⟩
    rw [List.drop_of_length_le (by omega)]
    rfl
  | k + 1, m, u, ps, y, z, hm, hy, hzz, hu, hl, hr, hd => by
    have hml : m < w.length := by omega
    have dr : w.drop m = wa w m :: w.drop (m + 1) := by
      rw [List.drop_eq_getElem_cons hml]
      simp [wa, List.getD_eq_getElem?_getD, hml]
    have nm : tupU 2 (consT (nameT 3) (consT (nameT 4) nilT)) (.tuple [.int (m : Int), pr (wa w m)]) [.im (wt w), .ow false (nd u), .ow false (ps.map fun p => pr (tp p)), y, z] = some [.im (wt w), .ow false (nd u), .ow false (ps.map fun p => pr (tp p)), .im (.int (m : Int)), .im (pr (wa w m))] := by
      rcases hy with rfl | ⟨e, rfl⟩ <;> rcases hzz with rfl | ⟨e2, rfl⟩ <;> rfl
    have nu : numD m ((w.drop m).map pr) = .tuple [.int (m : Int), pr (wa w m)] :: numD (m + 1) ((w.drop (m + 1)).map pr) := by
      rw [dr]; rfl
    have rr : List.range' m (k + 1) = m :: List.range' (m + 1) k := List.range'_succ
    rw [rr] at hr
    rcases t_sp (b := true) (by omega) hml (u := u) (ps := ps) (fun x hx => by have := hu x hx; omega) (by omega) (by omega) with ⟨v, a, rfl, hun, e⟩ | ⟨hno, e⟩
    · have hr2 : Rd w (v ++ List.range' (m + 1) k) (ps ++ [(a, m)]) := by
        rw [List.append_assoc] at hr
        exact .step hr hun
      have hd2 : Red (v.map (wa w)).reverse := by
        have : ((v ++ [a]).map (wa w)).reverse = wa w a :: (v.map (wa w)).reverse := by simp
        rw [this] at hd
        exact hd.tail
      obtain ⟨u', ps', y', z', q1, q2, q3, q4⟩ := l_sp hz k (m + 1) v (ps ++ [(a, m)]) (.im (.int (m : Int))) (.im (pr (wa w m))) (by omega) fr_im fr_im (fun x hx => by have := hu x (List.mem_append_left _ hx); omega) (by simp at hl ⊢; omega) hr2 hd2
      refine ⟨u', ps', y', z', q1, q2, q3, ?_⟩
      rw [nu, forL_cons nm, e]
      exact q4
    · have hr2 : Rd w ((u ++ [m]) ++ List.range' (m + 1) k) ps := by simpa using hr
      have hd2 : Red ((u ++ [m]).map (wa w)).reverse := by
        have : ((u ++ [m]).map (wa w)).reverse = wa w m :: (u.map (wa w)).reverse := by simp
        rw [this]
        rcases nil_snocN u with rfl | ⟨v, a, rfl⟩
        · exact True.intro
        · have e2 : ((v ++ [a]).map (wa w)).reverse = wa w a :: (v.map (wa w)).reverse := by simp
          rw [e2] at hd ⊢
          exact ⟨hno v a rfl, hd⟩
      obtain ⟨u', ps', y', z', q1, q2, q3, q4⟩ := l_sp hz k (m + 1) (u ++ [m]) ps (.im (.int (m : Int))) (.im (pr (wa w m))) (by omega) fr_im fr_im (fun x hx => by
        rcases List.mem_append.mp hx with z | z
        · have := hu x z; omega
        · rw [List.mem_singleton] at z; omega) (by simp at hl ⊢; omega) hr2 hd2
      refine ⟨u', ps', y', z', q1, q2, q3, ?_⟩
      rw [nu, forL_cons nm, e]
      exact q4
end K01
end VL

namespace VL
open PySem PySem.Spec PyProof.Rows L2
open PySem.W (Datum Tup)

namespace K01
theorem pOf_pr : ∀ l : List P2, pOf (l.map pr) = some l
  | [] => rfl
  | p :: l => by
    show pOf (.tuple [.int p.1, .int p.2] :: l.map pr) = _
    unfold pOf
    rw [pOf_pr l]
    rfl
theorem sorted_l (l : List P2) : sortedD [.list (l.map pr)] = some (.fr ((isrt l).map pr)) := by
  show srtO (l.map pr) = _
  unfold srtO
  rw [pOf_pr]
  rfl
theorem sorted_t (l : List P2) : sortedD [.tuple (l.map pr)] = some (.fr ((isrt l).map pr)) := by
  show srtO (l.map pr) = _
  unfold srtO
  rw [pOf_pr]
  rfl
theorem v_strike_pairs {w : Wd} (hz : w.length ≤ 900) : ∃ u ps, Rd w u ps ∧ Red (u.map (wa w)).reverse ∧ ps.length ≤ w.length ∧
    ∀ (d : D), isW d w → ∀ ρ, foE 1 m_strike_pairs [d] ρ = .ok (.im (.tuple ((isrt (ps.map tp)).map pr))) ρ := by
  obtain ⟨u, ps, y, z, q1, q2, q3, q4⟩ := l_sp hz w.length 0 [] [] .un .un (by omega) fr_un fr_un (fun _ z => (nomatch z)) (by simp) (by simpa [List.range_eq_range'] using Rd.base (w := w)) True.intro
  refine ⟨u, ps, q1, q2, q3, fun d h ρ => ?_⟩
  have a := v_need_word h (by rw [sizeLine_eq]; omega) (.int (-1))
  refine foE_of ?_ rfl ρ
  unfold G_strike_pairs
  have z0 : asgS 0 (clF 2 m_need_word (consD (varF 0) (consD (unF negD (cF (.int 1))) nilD))) [.im d, .un, .un, .un, .un] = .nx [.im (wt w), .un, .un, .un, .un] := by simp [retS, seqS, asgS, clF, clI, clKF, isOw, consD, consF, callF, call1, drs, opF, op2, unF, op1, varF, cF, nilD, nilF, bd, bs, frz, dr, fin, dat, setN, pin_0, pin_s, np_im, np_un, np_ow, iteS, tstF, blO, nxS, dropS, mutF, mutO, thaw, tupF, lstF, tupD, lstD, andF, orF, notF, andV, orV, notV, ifF, tgS, tupU, consT, nameT, nilT, parS, slF, noO, parO, intO, slO, isnD, unS, out, retV, negD, subD, intD, unF, op1, truF, truO, tru, parN, consL, addL, nilL, parM, setL, slOf, nrm, two, ltD, gtD, leD, geD, a, pinned]
  have z1 : asgS 1 (lstF nilD) [.im (wt w), .un, .un, .un, .un] = .nx [.im (wt w), .ow false [], .un, .un, .un] := by simp [retS, seqS, asgS, clF, clI, clKF, isOw, consD, consF, callF, call1, drs, opF, op2, unF, op1, varF, cF, nilD, nilF, bd, bs, frz, dr, fin, dat, setN, pin_0, pin_s, np_im, np_un, np_ow, iteS, tstF, blO, nxS, dropS, mutF, mutO, thaw, tupF, lstF, tupD, lstD, andF, orF, notF, andV, orV, notV, ifF, tgS, tupU, consT, nameT, nilT, parS, slF, noO, parO, intO, slO, isnD, unS, out, retV, negD, subD, intD, unF, op1, truF, truO, tru, parN, consL, addL, nilL, parM, setL, slOf, nrm, two, ltD, gtD, leD, geD, pinned]
  have z2 : asgS 2 (lstF nilD) [.im (wt w), .ow false [], .un, .un, .un] = .nx [.im (wt w), .ow false [], .ow false [], .un, .un] := by simp [retS, seqS, asgS, clF, clI, clKF, isOw, consD, consF, callF, call1, drs, opF, op2, unF, op1, varF, cF, nilD, nilF, bd, bs, frz, dr, fin, dat, setN, pin_0, pin_s, np_im, np_un, np_ow, iteS, tstF, blO, nxS, dropS, mutF, mutO, thaw, tupF, lstF, tupD, lstD, andF, orF, notF, andV, orV, notV, ifF, tgS, tupU, consT, nameT, nilT, parS, slF, noO, parO, intO, slO, isnD, unS, out, retV, negD, subD, intD, unF, op1, truF, truO, tru, parN, consL, addL, nilL, parM, setL, slOf, nrm, two, ltD, gtD, leD, geD, pinned]
  have I : enumUI (varF 0) [.im (wt w), .ow false [], .ow false [], .un, .un] = .ok (numD 0 (w.map pr)) [.im (wt w), .ow false [], .ow false [], .un, .un] := by simp [enumUI, varF, bd, frz, dat, enumUO, wt]
  show out (seqS _ (seqS _ (seqS _ (seqS (forS _ _ b_sp) _))) [.im d, .un, .un, .un, .un]) = _
  rw [seq_nx z0, seq_nx z1, seq_nx z2, seq_nx ((for_of I).trans q4)]
  have s : sortedD [.list (ps.map fun p => pr (tp p))] = some (.fr ((isrt (ps.map tp)).map pr)) := by
    have := sorted_l (ps.map tp)
    rw [List.map_map] at this
    exact this
  simp only [retS, unF, callF, consF, varF, nilF, List.getElem?_cons_succ, List.getElem?_cons_zero, bd, frz, call1, drs, dr, s, Option.map, fin, op1, tupleD, bs, out, retV]
/-! ### partners -/
def pnS (w : Wd) (a : List Int) (bf p : P2) : Option (List Int) :=
  if p.1 < 0 ∨ p.2 ≤ p.1 ∨ (w.length : Int) ≤ p.2 ∨ lexI [p.1, p.2] [bf.1, bf.2] = true then none
  else if a.getD p.1.toNat 0 ≠ -1 ∨ a.getD p.2.toNat 0 ≠ -1 ∨ ¬ und (wa w p.1.toNat) (wa w p.2.toNat) then none
  else some ((a.set p.1.toNat p.2).set p.2.toNat p.1)
def pn (w : Wd) : List P2 → List Int → P2 → Option (List Int)
  | [], a, _ => some a
  | p :: r, a, bf => (pnS w a bf p).bind fun a' => pn w r a' p
theorem v_is_tuple_of (d : D) (k : Int) (ρ : Rho) : foE 2 m_is_tuple_of [d, .int k] ρ = .ok (.im (.bool (match d with | .tuple ds => decide ((ds.length : Int) = k) | _ => false))) ρ := by
  refine foE_of ?_ rfl ρ
  unfold G_is_tuple_of
  cases d with
  | tuple ds =>
    have i : isiD "tuple" (.tuple ds) = some (.im (.bool true)) := rfl
    simp [retS, seqS, asgS, clF, clI, clKF, isOw, consD, consF, callF, call1, drs, opF, op2, unF, op1, varF, cF, nilD, nilF, bd, bs, frz, dr, fin, dat, setN, pin_0, pin_s, np_im, np_un, np_ow, iteS, tstF, blO, nxS, dropS, mutF, mutO, thaw, tupF, lstF, tupD, lstD, andF, orF, notF, andV, orV, notV, ifF, tgS, tupU, consT, nameT, nilT, parS, slF, noO, parO, intO, slO, isnD, unS, out, retV, negD, subD, intD, unF, op1, truF, truO, tru, parN, consL, addL, nilL, parM, setL, slOf, nrm, two, ltD, gtD, leD, geD, i, lenD, eqD_int]
  | _ => rfl
end K01
end VL

namespace VL
open PySem PySem.Spec PyProof.Rows L2
open PySem.W (Datum Tup)

namespace K01
theorem ixN_nat {n i : Nat} (h : i < n) : ixN n (i : Int) = some i := by
  simp [ixN, h]
theorem or_ok {F G : Rho → Ou Bool} {ρ : Rho} {a b : Bool} (h : F ρ = .ok a ρ) (k : G ρ = .ok b ρ) : orF F G ρ = .ok (a || b) ρ := by
  unfold orF
  rw [h, bd_ok]
  cases a
  · rw [if_neg Bool.false_ne_true, k]; rfl
  · rw [if_pos rfl]; rfl
abbrev c_1 : Rho → So := iteS (orF (notF (tstF (clF 2 m_is_tuple_of (consD (varF 4) (consD (cF (.int 2)) nilD))))) (orF (notF (tstF (clF 1 m_is_integer (consD (opF ixD (varF 4) (cF (.int 0))) nilD)))) (notF (tstF (clF 1 m_is_integer (consD (opF ixD (varF 4) (cF (.int 1))) nilD))))))
  (retS (cF .none))
  nxS
abbrev c_2 : Rho → So := tgS (tupU 2 (consT (nameT 5) (consT (nameT 6) nilT))) (varF 4)
abbrev c_3 : Rho → So := iteS (orF (tstF (opF ltD (varF 5) (cF (.int 0)))) (orF (tstF (opF geD (varF 5) (varF 6))) (orF (tstF (opF geD (varF 6) (callF lenD (consF (varF 0) nilF)))) (tstF (opF leTD (varF 4) (varF 3))))))
  (retS (cF .none))
  nxS
abbrev c_4 : Rho → So := iteS (orF (tstF (opF neD (opF ixD (varF 2) (varF 5)) (unF negD (cF (.int 1))))) (orF (tstF (opF neD (opF ixD (varF 2) (varF 6)) (unF negD (cF (.int 1))))) (notF (tstF (clF 2 m_undo_each_other (consD (opF ixD (varF 0) (varF 5)) (consD (opF ixD (varF 0) (varF 6)) nilD)))))))
  (retS (cF .none))
  nxS
abbrev b_pn : Rho → So := seqS c_1 (seqS c_2 (seqS c_3 (seqS c_4 (seqS (setS 2 (varF 6) (varF 5)) (seqS (setS 2 (varF 5) (varF 6)) (asgS 3 (varF 4)))))))
theorem t_pn {w : Wd} {V : Sl} {a : List Int} {bf p : P2} {y5 y6 : Sl} (ha : a.length = w.length) (h5 : Fr y5) (h6 : Fr y6) :
    match pnS w a bf p with
    | some a' => b_pn [.im (wt w), V, .ow false (a.map .int), .im (pr bf), .im (pr p), y5, y6] = .nx [.im (wt w), V, .ow false (a'.map .int), .im (pr p), .im (pr p), .im (.int p.1), .im (.int p.2)]
    | none => ∃ r, b_pn [.im (wt w), V, .ow false (a.map .int), .im (pr bf), .im (pr p), y5, y6] = .rt (.im .none) r := by
  have p0 : ixD (pr p) (.int 0) = some (.im (.int p.1)) := ixD_0 _ _
  have p1 : ixD (pr p) (.int 1) = some (.im (.int p.2)) := ixD_1 _ _ _
  have ii : ∀ (i : Int) ρ, foE 1 m_is_integer [.int i] ρ = .ok (.im (.bool true)) ρ := fun i => v_is_integer (.int i)
  have it : ∀ ρ, foE 2 m_is_tuple_of [pr p, .int 2] ρ = .ok (.im (.bool true)) ρ := v_is_tuple_of (pr p) 2
  have z1 : c_1 [.im (wt w), V, .ow false (a.map .int), .im (pr bf), .im (pr p), y5, y6] = .nx [.im (wt w), V, .ow false (a.map .int), .im (pr bf), .im (pr p), y5, y6] := by
    simp [c_1, retS, seqS, asgS, clF, clI, clKF, isOw, consD, consF, callF, call1, drs, opF, op2, unF, op1, varF, cF, nilD, nilF, bd, bs, frz, dr, fin, dat, setN, pin_0, pin_s, np_im, np_un, np_ow, iteS, tstF, blO, nxS, dropS, mutF, mutO, thaw, tupF, lstF, tupD, lstD, andF, orF, notF, andV, orV, notV, ifF, tgS, tupU, consT, nameT, nilT, parS, slF, noO, parO, intO, slO, isnD, unS, out, retV, negD, subD, intD, unF, op1, truF, truO, tru, parN, consL, addL, nilL, parM, setL, slOf, nrm, two, ltD, gtD, leD, geD, it, p0, p1, ii]
  have z2 : c_2 [.im (wt w), V, .ow false (a.map .int), .im (pr bf), .im (pr p), y5, y6] = .nx [.im (wt w), V, .ow false (a.map .int), .im (pr bf), .im (pr p), .im (.int p.1), .im (.int p.2)] := by
    rcases h5 with rfl | ⟨e, rfl⟩ <;> rcases h6 with rfl | ⟨e2, rfl⟩ <;> rfl
  have hl : lenD [wt w] = some (.im (.int (w.length : Nat))) := by simp [lenD, wt]
  have lt : leTD (pr p) (pr bf) = some (.im (.bool (lexI [p.1, p.2] [bf.1, bf.2]))) := rfl
  have k1 : tstF (opF ltD (varF 5) (cF (.int 0))) [.im (wt w), V, .ow false (a.map .int), .im (pr bf), .im (pr p), .im (.int p.1), .im (.int p.2)] = .ok (decide (p.1 < 0)) [.im (wt w), V, .ow false (a.map .int), .im (pr bf), .im (pr p), .im (.int p.1), .im (.int p.2)] := rfl
  have k2 : tstF (opF geD (varF 5) (varF 6)) [.im (wt w), V, .ow false (a.map .int), .im (pr bf), .im (pr p), .im (.int p.1), .im (.int p.2)] = .ok (decide (p.2 ≤ p.1)) [.im (wt w), V, .ow false (a.map .int), .im (pr bf), .im (pr p), .im (.int p.1), .im (.int p.2)] := rfl
  have k3 : tstF (opF geD (varF 6) (callF lenD (consF (varF 0) nilF))) [.im (wt w), V, .ow false (a.map .int), .im (pr bf), .im (pr p), .im (.int p.1), .im (.int p.2)] = .ok (decide ((w.length : Int) ≤ p.2)) [.im (wt w), V, .ow false (a.map .int), .im (pr bf), .im (pr p), .im (.int p.1), .im (.int p.2)] := by
    simp [retS, seqS, asgS, clF, clI, clKF, isOw, consD, consF, callF, call1, drs, opF, op2, unF, op1, varF, cF, nilD, nilF, bd, bs, frz, dr, fin, dat, setN, pin_0, pin_s, np_im, np_un, np_ow, iteS, tstF, blO, nxS, dropS, mutF, mutO, thaw, tupF, lstF, tupD, lstD, andF, orF, notF, andV, orV, notV, ifF, tgS, tupU, consT, nameT, nilT, parS, slF, noO, parO, intO, slO, isnD, unS, out, retV, negD, subD, intD, unF, op1, truF, truO, tru, parN, consL, addL, nilL, parM, setL, slOf, nrm, two, ltD, gtD, leD, geD, hl]
  have k4 : tstF (opF leTD (varF 4) (varF 3)) [.im (wt w), V, .ow false (a.map .int), .im (pr bf), .im (pr p), .im (.int p.1), .im (.int p.2)] = .ok (lexI [p.1, p.2] [bf.1, bf.2]) [.im (wt w), V, .ow false (a.map .int), .im (pr bf), .im (pr p), .im (.int p.1), .im (.int p.2)] := rfl
  have C3 := or_ok k1 (or_ok k2 (or_ok k3 k4))
  have head : ∀ o, seqS c_3 (seqS c_4 (seqS (setS 2 (varF 6) (varF 5)) (seqS (setS 2 (varF 5) (varF 6)) (asgS 3 (varF 4))))) [.im (wt w), V, .ow false (a.map .int), .im (pr bf), .im (pr p), .im (.int p.1), .im (.int p.2)] = o → b_pn [.im (wt w), V, .ow false (a.map .int), .im (pr bf), .im (pr p), y5, y6] = o := fun o h => by
    unfold b_pn
    rw [seq_nx z1, seq_nx z2]
    exact h
  unfold pnS
  by_cases h3 : p.1 < 0 ∨ p.2 ≤ p.1 ∨ (w.length : Int) ≤ p.2 ∨ lexI [p.1, p.2] [bf.1, bf.2] = true
  · rw [if_pos h3]
    have e : (decide (p.1 < 0) || (decide (p.2 ≤ p.1) || (decide ((w.length : Int) ≤ p.2) || lexI [p.1, p.2] [bf.1, bf.2]))) = true := by simpa using h3
    rw [e] at C3
    exact ⟨_, head _ (seq_rt ((ite_t C3).trans rfl))⟩
  · rw [if_neg h3]
    have e : (decide (p.1 < 0) || (decide (p.2 ≤ p.1) || (decide ((w.length : Int) ≤ p.2) || lexI [p.1, p.2] [bf.1, bf.2]))) = false := by
      rw [Bool.eq_false_iff]; intro z; exact h3 (by simpa using z)
    rw [e] at C3
    have g : 0 ≤ p.1 ∧ p.1 < p.2 ∧ p.2 < (w.length : Int) := by
      refine ⟨?_, ?_, ?_⟩
      · rcases Int.lt_or_le p.1 0 with z | z
        · exact absurd (.inl z) h3
        · exact z
      · rcases Int.lt_or_le p.1 p.2 with z | z
        · exact z
        · exact absurd (.inr (.inl z)) h3
      · rcases Int.lt_or_le p.2 w.length with z | z
        · exact z
        · exact absurd (.inr (.inr (.inl z))) h3
    obtain ⟨i, hi⟩ : ∃ i : Nat, p.1 = (i : Int) := ⟨p.1.toNat, (Int.toNat_of_nonneg g.1).symm⟩
    obtain ⟨j, hj⟩ : ∃ j : Nat, p.2 = (j : Int) := ⟨p.2.toNat, (Int.toNat_of_nonneg (by omega)).symm⟩
    have hin : i < w.length := by omega
    have hjn : j < w.length := by omega
    have x5 : ixD (.list (a.map .int)) (.int p.1) = some (.im (.int (a.getD i 0))) := by
      rw [hi]
      refine ixD_l ?_
      rw [List.getElem?_map, List.getD_eq_getElem?_getD, List.getElem?_eq_getElem (by omega)]
      rfl
    have x6 : ixD (.list (a.map .int)) (.int p.2) = some (.im (.int (a.getD j 0))) := by
      rw [hj]
      refine ixD_l ?_
      rw [List.getElem?_map, List.getD_eq_getElem?_getD, List.getElem?_eq_getElem (by omega)]
      rfl
    have w5 : ixD (wt w) (.int p.1) = some (.im (pr (wa w i))) := by rw [hi]; exact ix_wt hin
    have w6 : ixD (wt w) (.int p.2) = some (.im (pr (wa w j))) := by rw [hj]; exact ix_wt hjn
    have n1 := neD_int (a.getD i 0) (-1)
    have n2 := neD_int (a.getD j 0) (-1)
    have uo := v_undo_each_other (wa w i) (wa w j)
    have u1 : tstF (opF neD (opF ixD (varF 2) (varF 5)) (unF negD (cF (.int 1)))) [.im (wt w), V, .ow false (a.map .int), .im (pr bf), .im (pr p), .im (.int p.1), .im (.int p.2)] = .ok (!decide (a.getD i 0 = -1)) [.im (wt w), V, .ow false (a.map .int), .im (pr bf), .im (pr p), .im (.int p.1), .im (.int p.2)] := by
      generalize a.getD i 0 = A at *
      simp [retS, seqS, asgS, clF, clI, clKF, isOw, consD, consF, callF, call1, drs, opF, op2, unF, op1, varF, cF, nilD, nilF, bd, bs, frz, dr, fin, dat, setN, pin_0, pin_s, np_im, np_un, np_ow, iteS, tstF, blO, nxS, dropS, mutF, mutO, thaw, tupF, lstF, tupD, lstD, andF, orF, notF, andV, orV, notV, ifF, tgS, tupU, consT, nameT, nilT, parS, slF, noO, parO, intO, slO, isnD, unS, out, retV, negD, subD, intD, unF, op1, truF, truO, tru, parN, consL, addL, nilL, parM, setL, slOf, nrm, two, ltD, gtD, leD, geD, x5, n1]
    have u2 : tstF (opF neD (opF ixD (varF 2) (varF 6)) (unF negD (cF (.int 1)))) [.im (wt w), V, .ow false (a.map .int), .im (pr bf), .im (pr p), .im (.int p.1), .im (.int p.2)] = .ok (!decide (a.getD j 0 = -1)) [.im (wt w), V, .ow false (a.map .int), .im (pr bf), .im (pr p), .im (.int p.1), .im (.int p.2)] := by
      generalize a.getD j 0 = A at *
      simp [retS, seqS, asgS, clF, clI, clKF, isOw, consD, consF, callF, call1, drs, opF, op2, unF, op1, varF, cF, nilD, nilF, bd, bs, frz, dr, fin, dat, setN, pin_0, pin_s, np_im, np_un, np_ow, iteS, tstF, blO, nxS, dropS, mutF, mutO, thaw, tupF, lstF, tupD, lstD, andF, orF, notF, andV, orV, notV, ifF, tgS, tupU, consT, nameT, nilT, parS, slF, noO, parO, intO, slO, isnD, unS, out, retV, negD, subD, intD, unF, op1, truF, truO, tru, parN, consL, addL, nilL, parM, setL, slOf, nrm, two, ltD, gtD, leD, geD, x6, n2]
    have u3 : notF (tstF (clF 2 m_undo_each_other (consD (opF ixD (varF 0) (varF 5)) (consD (opF ixD (varF 0) (varF 6)) nilD)))) [.im (wt w), V, .ow false (a.map .int), .im (pr bf), .im (pr p), .im (.int p.1), .im (.int p.2)] = .ok (!decide (und (wa w i) (wa w j))) [.im (wt w), V, .ow false (a.map .int), .im (pr bf), .im (pr p), .im (.int p.1), .im (.int p.2)] := by
      have uo' : ∀ ρ, foE 2 m_undo_each_other [pr (wa w i), pr (wa w j)] ρ = .ok (.im (.bool (decide (und (wa w i) (wa w j))))) ρ := uo
      generalize decide (und (wa w i) (wa w j)) = z at *
      simp [retS, seqS, asgS, clF, clI, clKF, isOw, consD, consF, callF, call1, drs, opF, op2, unF, op1, varF, cF, nilD, nilF, bd, bs, frz, dr, fin, dat, setN, pin_0, pin_s, np_im, np_un, np_ow, iteS, tstF, blO, nxS, dropS, mutF, mutO, thaw, tupF, lstF, tupD, lstD, andF, orF, notF, andV, orV, notV, ifF, tgS, tupU, consT, nameT, nilT, parS, slF, noO, parO, intO, slO, isnD, unS, out, retV, negD, subD, intD, unF, op1, truF, truO, tru, parN, consL, addL, nilL, parM, setL, slOf, nrm, two, ltD, gtD, leD, geD, w5, w6, uo']
    have C4 := or_ok u1 (or_ok u2 u3)
    have ti' : p.1.toNat = i := by omega
    have tj' : p.2.toNat = j := by omega
    rw [ti', tj']
    by_cases h4 : a.getD i 0 ≠ -1 ∨ a.getD j 0 ≠ -1 ∨ ¬ und (wa w i) (wa w j)
    · rw [if_pos h4]
      have e : (!decide (a.getD i 0 = -1) || (!decide (a.getD j 0 = -1) || !decide (und (wa w i) (wa w j)))) = true := by simpa using h4
      rw [e] at C4
      exact ⟨_, head _ ((seq_nx ((ite_f C3).trans (show nxS _ = .nx _ from rfl))).trans (seq_rt ((ite_t C4).trans rfl)))⟩
    · rw [if_neg h4]
      have e : (!decide (a.getD i 0 = -1) || (!decide (a.getD j 0 = -1) || !decide (und (wa w i) (wa w j)))) = false := by
        rw [Bool.eq_false_iff]; intro z; exact h4 (by simpa using z)
      rw [e] at C4
      refine head _ ?_
      rw [seq_nx ((ite_f C3).trans (show nxS _ = .nx _ from rfl)), seq_nx ((ite_f C4).trans (show nxS _ = .nx _ from rfl))]
      have s1 : setS 2 (varF 6) (varF 5) [.im (wt w), V, .ow false (a.map .int), .im (pr bf), .im (pr p), .im (.int p.1), .im (.int p.2)] = .nx [.im (wt w), V, .ow false ((a.set i p.2).map .int), .im (pr bf), .im (pr p), .im (.int p.1), .im (.int p.2)] := by
        have e0 : setS 2 (varF 6) (varF 5) [.im (wt w), V, .ow false (a.map .int), .im (pr bf), .im (pr p), .im (.int p.1), .im (.int p.2)] = setO 2 (.int p.2) (.int p.1) [.im (wt w), V, .ow false (a.map .int), .im (pr bf), .im (pr p), .im (.int p.1), .im (.int p.2)] := by simp [setS, isOw, varF, bd, bs, frz, dat, thaw]
        rw [e0]
        have : ixN (a.map PyData.int).length p.1 = some i := by
          rw [hi, List.length_map]; exact ixN_nat (by omega)
        unfold setO
        simp only [List.getElem?_cons_succ, List.getElem?_cons_zero, this]; simp only [List.map_set]
        rfl
      have s2 : setS 2 (varF 5) (varF 6) [.im (wt w), V, .ow false ((a.set i p.2).map .int), .im (pr bf), .im (pr p), .im (.int p.1), .im (.int p.2)] = .nx [.im (wt w), V, .ow false (((a.set i p.2).set j p.1).map .int), .im (pr bf), .im (pr p), .im (.int p.1), .im (.int p.2)] := by
        have e0 : setS 2 (varF 5) (varF 6) [.im (wt w), V, .ow false ((a.set i p.2).map .int), .im (pr bf), .im (pr p), .im (.int p.1), .im (.int p.2)] = setO 2 (.int p.1) (.int p.2) [.im (wt w), V, .ow false ((a.set i p.2).map .int), .im (pr bf), .im (pr p), .im (.int p.1), .im (.int p.2)] := by simp [setS, isOw, varF, bd, bs, frz, dat, thaw]
        rw [e0]
        have : ixN ((a.set i p.2).map PyData.int).length p.2 = some j := by
          rw [hj, List.length_map, List.length_set]; exact ixN_nat (by omega)
        unfold setO
        simp only [List.getElem?_cons_succ, List.getElem?_cons_zero, this]; simp only [List.map_set]
        rfl
      rw [seq_nx s1, seq_nx s2]
      rfl
end K01
end VL

namespace VL
open PySem PySem.Spec PyProof.Rows L2
open PySem.W (Datum Tup)

namespace K01
theorem pnS_len {w : Wd} {a a' : List Int} {bf p : P2} (h : pnS w a bf p = some a') : a'.length = a.length ∧ 0 ≤ p.1 ∧ p.1 < p.2 ∧ p.2 < (w.length : Int) := by
  unfold pnS at h
  split at h
  · cases h
  · rename_i c
    split at h
    · cases h
    · cases h
      refine ⟨by simp, ?_, ?_, ?_⟩
      · rcases Int.lt_or_le p.1 0 with z | z
        · exact absurd (.inl z) c
        · exact z
      · rcases Int.lt_or_le p.1 p.2 with z | z
        · exact z
        · exact absurd (.inr (.inl z)) c
      · rcases Int.lt_or_le p.2 w.length with z | z
        · exact z
        · exact absurd (.inr (.inr (.inl z))) c
theorem pn_b {w : Wd} : ∀ {ps : List P2} {a a' : List Int} {bf : P2}, pn w ps a bf = some a' → a'.length = a.length ∧ ∀ p ∈ ps, 0 ≤ p.1 ∧ p.1 < p.2 ∧ p.2 < (w.length : Int)
  | [], a, a', bf, h => by cases h; exact ⟨rfl, fun _ z => nomatch z⟩
  | p :: ps, a, a', bf, h => by
    unfold pn at h
    cases e : pnS w a bf p with
    | none => rw [e] at h; cases h
    | some b =>
      rw [e] at h
      have k := pnS_len e
      have r := pn_b (show pn w ps b p = some a' from h)
      refine ⟨r.1.trans k.1, fun q hq => ?_⟩
      rcases List.mem_cons.mp hq with rfl | hq
      · exact k.2
      · exact r.2 q hq
abbrev V7 (w : Wd) (V : D) (a : List Int) (bf : P2) (y4 y5 y6 : Sl) : Rho := [.im (wt w), .im V, .ow false (a.map .int), .im (pr bf), y4, y5, y6]
theorem l_pn {w : Wd} {V : D} (rest : List D) : ∀ (ps : List P2) (a : List Int) (bf : P2) (y4 y5 y6 : Sl), a.length = w.length → Fr y4 → Fr y5 → Fr y6 →
    match pn w ps a bf with
    | some a' => ∃ bf' y4' y5' y6', Fr y4' ∧ Fr y5' ∧ Fr y6' ∧ forL (nameT 4) b_pn (ps.map pr ++ rest) (V7 w V a bf y4 y5 y6) = forL (nameT 4) b_pn rest (V7 w V a' bf' y4' y5' y6')
    | none => ∃ r, forL (nameT 4) b_pn (ps.map pr ++ rest) (V7 w V a bf y4 y5 y6) = .rt (.im .none) r
  | [], a, bf, y4, y5, y6, ha, h4, h5, h6 => ⟨bf, y4, y5, y6, h4, h5, h6, rfl⟩
  | p :: ps, a, bf, y4, y5, y6, ha, h4, h5, h6 => by
    have nm : nameT 4 (pr p) (V7 w V a bf y4 y5 y6) = some (V7 w V a bf (.im (pr p)) y5 y6) := by rcases h4 with rfl | ⟨e, rfl⟩ <;> rfl
    have t := @t_pn w (.im V) a bf p y5 y6 ha h5 h6
    unfold pn
    cases e : pnS w a bf p with
    | none =>
      rw [e] at t
      obtain ⟨r, t⟩ := t
      exact ⟨r, by rw [List.map_cons, List.cons_append, forL_cons nm, t]; rfl⟩
    | some b =>
      rw [e] at t
      have k := pnS_len e
      have ih := l_pn (V := V) rest ps b p (.im (pr p)) (.im (.int p.1)) (.im (.int p.2)) (k.1.trans ha) fr_im fr_im fr_im
      show match pn w ps b p with | some a' => _ | none => _
      cases e2 : pn w ps b p with
      | none =>
        rw [e2] at ih
        obtain ⟨r, ih⟩ := ih
        exact ⟨r, by rw [List.map_cons, List.cons_append, forL_cons nm, t]; exact ih⟩
      | some a' =>
        rw [e2] at ih
        obtain ⟨bf', z4, z5, z6, q4, q5, q6, ih⟩ := ih
        exact ⟨bf', z4, z5, z6, q4, q5, q6, by rw [List.map_cons, List.cons_append, forL_cons nm, t]; exact ih⟩
abbrev mone (n : Nat) : List Int := List.replicate n (-1)
theorem rep_flat (n : Nat) (d : D) : (List.replicate n [d]).flatten = List.replicate n d := by
  induction n with
  | zero => rfl
  | succ n ih => rw [List.replicate_succ, List.replicate_succ, List.flatten_cons, ih]; rfl
theorem mul_one_l (n : Nat) (hn : n ≤ 900) : mulLD (.list [.int (-1)]) (.int (n : Nat)) = some (.fr ((mone n).map .int)) := by
  have c : (decide ((0 : Int) ≤ (n : Nat)) && decide (((n : Nat) : Int) < 1099511627776) && decide ([PyData.int (-1)].length * ((n : Nat) : Int).toNat ≤ sizeLine)) = true := by
    simp only [Bool.and_eq_true, decide_eq_true_eq, Int.toNat_natCast, List.length_singleton, sizeLine_eq]
    omega
  unfold mulLD
  dsimp only
  rw [if_pos c, Int.toNat_natCast, rep_flat, List.map_replicate]
theorem pn_z1 {w : Wd} {V : D} (M : List D) : asgS 3 (tupF (consD (unF negD (cF (.int 1))) (consD (unF negD (cF (.int 1))) nilD))) [.im (wt w), .im V, .ow false M, .un, .un, .un, .un] = .nx [.im (wt w), .im V, .ow false M, .im (pr (-1, -1)), .un, .un, .un] := by
  simp [retS, seqS, asgS, clF, clI, clKF, isOw, consD, consF, callF, call1, drs, opF, op2, unF, op1, varF, cF, nilD, nilF, bd, bs, frz, dr, fin, dat, setN, pin_0, pin_s, np_im, np_un, np_ow, iteS, tstF, blO, nxS, dropS, mutF, mutO, thaw, tupF, lstF, tupD, lstD, andF, orF, notF, andV, orV, notV, ifF, tgS, tupU, consT, nameT, nilT, parS, slF, noO, parO, intO, slO, isnD, unS, out, retV, negD, subD, intD, unF, op1, truF, truO, tru, parN, consL, addL, nilL, parM, setL, slOf, nrm, two, ltD, gtD, leD, geD, sizeLine_eq, pinned, pr]
theorem pn_z0 {w : Wd} {V : D} (f : D → D → Option Rs) (M : List D) (m : f (.list [.int (-1)]) (.int (w.length : Nat)) = some (.fr M)) : asgS 2 (opF f (lstF (consD (unF negD (cF (.int 1))) nilD)) (callF lenD (consF (varF 0) nilF))) [.im (wt w), .im V, .un, .un, .un, .un, .un] = .nx [.im (wt w), .im V, .ow false M, .un, .un, .un, .un] := by
  have l : lenD [wt w] = some (.im (.int (w.length : Nat))) := by simp [lenD, wt]
  simp [retS, seqS, asgS, clF, clI, clKF, isOw, consD, consF, callF, call1, drs, opF, op2, unF, op1, varF, cF, nilD, nilF, bd, bs, frz, dr, fin, dat, setN, pin_0, pin_s, np_im, np_un, np_ow, iteS, tstF, blO, nxS, dropS, mutF, mutO, thaw, tupF, lstF, tupD, lstD, andF, orF, notF, andV, orV, notV, ifF, tgS, tupU, consT, nameT, nilT, parS, slF, noO, parO, intO, slO, isnD, unS, out, retV, negD, subD, intD, unF, op1, truF, truO, tru, parN, consL, addL, nilL, parM, setL, slOf, nrm, two, ltD, gtD, leD, geD, sizeLine_eq, l, m, pinned]
theorem pn_head {w : Wd} {V : D} (hz : w.length ≤ 900) {o : So} (h : seqS (forS (seqI (varF 1)) (nameT 4) b_pn) (retS (varF 2)) (V7 w V (mone w.length) (-1, -1) .un .un .un) = o) : G_partners_or_none [.im (wt w), .im V, .un, .un, .un, .un, .un] = o := by
  have z0 := pn_z0 (V := V) mulLD ((mone w.length).map .int) (mul_one_l w.length hz)
  have z1 := pn_z1 (w := w) (V := V) ((mone w.length).map .int)
  unfold G_partners_or_none
  rw [seq_nx z0, seq_nx z1]
  exact h
def pnO (w : Wd) (ps : List P2) : Option (List Int) := pn w ps (mone w.length) (-1, -1)
theorem pn_I {w : Wd} {ds : List D} {a : List Int} {bf : P2} : seqI (varF 1) (V7 w (.tuple ds) a bf .un .un .un) = .ok ds (V7 w (.tuple ds) a bf .un .un .un) := rfl
theorem v_pn_some {w : Wd} (hz : w.length ≤ 900) {ps : List P2} {a : List Int} (h : pnO w ps = some a) (ρ : Rho) : foE 2 m_partners_or_none [wt w, .tuple (ps.map pr)] ρ = .ok (.fr (a.map .int)) ρ := by
  have l := l_pn (w := w) (V := .tuple (ps.map pr)) [] ps (mone w.length) (-1, -1) .un .un .un (by simp) fr_un fr_un fr_un
  rw [show pn w ps (mone w.length) (-1, -1) = some a from h] at l
  obtain ⟨bf', y4, y5, y6, f4, f5, f6, e⟩ := l
  rw [List.append_nil] at e
  refine foE_fr (n := 2) (k := 5) (G := G_partners_or_none) (ds := [wt w, .tuple (ps.map pr)]) ?_ rfl ρ
  rw [show G_partners_or_none (([wt w, .tuple (ps.map pr)] : List D).map .im ++ unS 5) = .rt (.sl 2) (V7 w (.tuple (ps.map pr)) a bf' y4 y5 y6) from pn_head hz ((seq_nx ((for_of pn_I).trans e)).trans rfl)]
  rfl
theorem v_pn_none {w : Wd} (hz : w.length ≤ 900) {ps : List P2} (h : pnO w ps = none) (rest : List D) (ρ : Rho) : foE 2 m_partners_or_none [wt w, .tuple (ps.map pr ++ rest)] ρ = .ok (.im .none) ρ := by
  have l := l_pn (w := w) (V := .tuple (ps.map pr ++ rest)) rest ps (mone w.length) (-1, -1) .un .un .un (by simp) fr_un fr_un fr_un
  rw [show pn w ps (mone w.length) (-1, -1) = none from h] at l
  obtain ⟨r, e⟩ := l
  refine foE_of (n := 2) (k := 5) (G := G_partners_or_none) (ds := [wt w, .tuple (ps.map pr ++ rest)]) ?_ rfl ρ
  rw [show G_partners_or_none (([wt w, .tuple (ps.map pr ++ rest)] : List D).map .im ++ unS 5) = .rt (.im .none) r from pn_head hz (seq_rt ((for_of pn_I).trans e))]
  rfl
/-- no pair in a tuple -/
def noP (d : D) : Prop := ∀ ρ, foE 2 m_is_tuple_of [d, .int 2] ρ = .ok (.im (.bool false)) ρ
theorem v_pn_bad {w : Wd} (hz : w.length ≤ 900) (ps : List P2) {d : D} (hd : noP d) (rest : List D) (ρ : Rho) : foE 2 m_partners_or_none [wt w, .tuple (ps.map pr ++ d :: rest)] ρ = .ok (.im .none) ρ := by
  cases h : pnO w ps with
  | none => exact v_pn_none hz h _ ρ
  | some a =>
    have l := l_pn (w := w) (V := .tuple (ps.map pr ++ d :: rest)) (d :: rest) ps (mone w.length) (-1, -1) .un .un .un (by simp) fr_un fr_un fr_un
    rw [show pn w ps (mone w.length) (-1, -1) = some a from h] at l
    obtain ⟨bf', y4, y5, y6, f4, f5, f6, e⟩ := l
    have nm : nameT 4 d (V7 w (.tuple (ps.map pr ++ d :: rest)) a bf' y4 y5 y6) = some (V7 w (.tuple (ps.map pr ++ d :: rest)) a bf' (.im d) y5 y6) := by rcases f4 with rfl | ⟨e, rfl⟩ <;> rfl
    have z : ∀ v, c_1 (V7 w v a bf' (.im d) y5 y6) = .rt (.im .none) (V7 w v a bf' (.im d) y5 y6) := fun v => by
      have hd' : ∀ ρ, foE 2 m_is_tuple_of [d, .int 2] ρ = .ok (.im (.bool false)) ρ := hd
      simp [c_1, V7, retS, seqS, asgS, clF, clI, clKF, isOw, consD, consF, callF, call1, drs, opF, op2, unF, op1, varF, cF, nilD, nilF, bd, bs, frz, dr, fin, dat, setN, pin_0, pin_s, np_im, np_un, np_ow, iteS, tstF, blO, nxS, dropS, mutF, mutO, thaw, tupF, lstF, tupD, lstD, andF, orF, notF, andV, orV, notV, ifF, tgS, tupU, consT, nameT, nilT, parS, slF, noO, parO, intO, slO, isnD, unS, out, retV, negD, subD, intD, unF, op1, truF, truO, tru, parN, consL, addL, nilL, parM, setL, slOf, nrm, two, ltD, gtD, leD, geD, hd']
    have e2 : forL (nameT 4) b_pn (d :: rest) (V7 w (.tuple (ps.map pr ++ d :: rest)) a bf' y4 y5 y6) = .rt (.im .none) (V7 w (.tuple (ps.map pr ++ d :: rest)) a bf' (.im d) y5 y6) := by
      rw [forL_cons nm, show b_pn (V7 w (.tuple (ps.map pr ++ d :: rest)) a bf' (.im d) y5 y6) = .rt (.im .none) _ from seq_rt (z _)]
      rfl
    refine foE_of (n := 2) (k := 5) (G := G_partners_or_none) (ds := [wt w, .tuple (ps.map pr ++ d :: rest)]) ?_ rfl ρ
    rw [show G_partners_or_none (([wt w, .tuple (ps.map pr ++ d :: rest)] : List D).map .im ++ unS 5) = .rt (.im .none) _ from pn_head hz (seq_rt ((for_of pn_I).trans (e.trans e2)))]
    rfl
end K01
end VL

namespace VL
open PySem PySem.Spec PyProof.Rows L2
open PySem.W (Datum Tup)

namespace K01
def inP (a : List Int) (p : P2) : Bool := (List.range (p.2 - (p.1 + 1)).toNat).all fun t => decide (p.1 < a.getD ((p.1 + 1).toNat + t) 0) && decide (a.getD ((p.1 + 1).toNat + t) 0 < p.2)
def restW (w : Wd) (a : List Int) : Wd := ((List.range w.length).filter fun k => decide (a.getD k 0 = -1)).map (wa w)
def hold (w : Wd) (ps : List P2) : Bool := match pnO w ps with
  | none => false
  | some a => (ps.all (inP a)) && decide (strike (restW w a) = restW w a)
abbrev b_in : Rho → So := iteS (orF (tstF (opF leD (opF ixD (varF 2) (varF 5)) (varF 3))) (tstF (opF geD (opF ixD (varF 2) (varF 5)) (varF 4))))
  (retS (cF (.bool false)))
  nxS
abbrev V9 (w : Wd) (V : D) (a : List Int) (y3 y4 y5 y6 : Sl) : Rho := [.im (wt w), .im V, .ow false (a.map .int), y3, y4, y5, y6, .un, .un]
theorem loop_all {α : Type} {T : Tg} {B : Rho → So} {enc : α → D} {q : α → Bool} {S : Rho → Prop} {z : Rs} : ∀ (l : List α) (ρ : Rho), S ρ →
    (∀ a ∈ l, ∀ ρ, S ρ → ∃ ρ1, T (enc a) ρ = some ρ1 ∧ ((q a = true ∧ ∃ ρ2, B ρ1 = .nx ρ2 ∧ S ρ2) ∨ (q a = false ∧ ∃ r, B ρ1 = .rt z r))) →
    (l.all q = true ∧ ∃ ρ', forL T B (l.map enc) ρ = .nx ρ' ∧ S ρ') ∨ (l.all q = false ∧ ∃ r, forL T B (l.map enc) ρ = .rt z r)
  | [], ρ, s, _ => .inl ⟨rfl, ρ, rfl, s⟩
  | x :: l, ρ, s, h => by
    obtain ⟨ρ1, e1, c⟩ := h x List.mem_cons_self ρ s
    rcases c with ⟨hq, ρ2, e2, s2⟩ | ⟨hq, r, e2⟩
    · rcases loop_all l ρ2 s2 (fun a ha => h a (List.mem_cons_of_mem _ ha)) with ⟨k, ρ', e3, s3⟩ | ⟨k, r, e3⟩
      · exact .inl ⟨by rw [List.all_cons, hq, k]; rfl, ρ', by rw [List.map_cons, forL_cons e1, e2]; exact e3, s3⟩
      · exact .inr ⟨by rw [List.all_cons, hq, k]; rfl, r, by rw [List.map_cons, forL_cons e1, e2]; exact e3⟩
    · exact .inr ⟨by rw [List.all_cons, hq]; rfl, r, by rw [List.map_cons, forL_cons e1, e2]; rfl⟩
theorem ix_a {a : List Int} {k : Nat} (hk : k < a.length) : ixD (.list (a.map .int)) (.int (k : Int)) = some (.im (.int (a.getD k 0))) := by
  refine ixD_l ?_
  rw [List.getElem?_map, List.getD_eq_getElem?_getD, List.getElem?_eq_getElem hk]
  rfl
abbrev b_out : Rho → So := forS (rng2I (consD (opF addD (varF 3) (cF (.int 1))) (consD (varF 4) nilD))) (nameT 5) b_in
theorem t_in {w : Wd} {V : D} {a : List Int} {p : P2} (hp : 0 ≤ p.1 ∧ p.1 < p.2 ∧ p.2 < (a.length : Int)) (hz : a.length ≤ 900) (y5 : Sl) (h5 : Fr y5) :
    (inP a p = true ∧ ∃ y5', Fr y5' ∧ b_out (V9 w V a (.im (.int p.1)) (.im (.int p.2)) y5 .un) = .nx (V9 w V a (.im (.int p.1)) (.im (.int p.2)) y5' .un)) ∨
    (inP a p = false ∧ ∃ r, b_out (V9 w V a (.im (.int p.1)) (.im (.int p.2)) y5 .un) = .rt (.im (.bool false)) r) := by
  have I : rng2I (consD (opF addD (varF 3) (cF (.int 1))) (consD (varF 4) nilD)) (V9 w V a (.im (.int p.1)) (.im (.int p.2)) y5 .un) = .ok (rngD (p.1 + 1) p.2) (V9 w V a (.im (.int p.1)) (.im (.int p.2)) y5 .un) := by
    have c : consD (opF addD (varF 3) (cF (.int 1))) (consD (varF 4) nilD) (V9 w V a (.im (.int p.1)) (.im (.int p.2)) y5 .un) = .ok [.int (p.1 + 1), .int p.2] (V9 w V a (.im (.int p.1)) (.im (.int p.2)) y5 .un) := by simp [retS, seqS, asgS, clF, clI, clKF, isOw, consD, consF, callF, call1, drs, opF, op2, unF, op1, varF, cF, nilD, nilF, bd, bs, frz, dr, fin, dat, setN, pin_0, pin_s, np_im, np_un, np_ow, iteS, tstF, blO, nxS, dropS, mutF, mutO, thaw, tupF, lstF, tupD, lstD, andF, orF, notF, andV, orV, notV, ifF, tgS, tupU, consT, nameT, nilT, parS, slF, noO, parO, intO, slO, isnD, unS, out, retV, negD, subD, intD, unF, op1, truF, truO, tru, parN, consL, addL, nilL, parM, setL, slOf, nrm, two, ltD, gtD, leD, geD, V9, addD]
    unfold rng2I
    rw [c, bd_ok]
    unfold rng2O
    dsimp only
    rw [if_pos (by omega)]
  have L := loop_all (T := nameT 5) (B := b_in) (enc := fun t : Nat => PyData.int (p.1 + 1 + (t : Nat))) (q := fun t => decide (p.1 < a.getD ((p.1 + 1).toNat + t) 0) && decide (a.getD ((p.1 + 1).toNat + t) 0 < p.2))
    (S := fun ρ => ∃ y, Fr y ∧ ρ = V9 w V a (.im (.int p.1)) (.im (.int p.2)) y .un) (z := .im (.bool false)) (List.range (p.2 - (p.1 + 1)).toNat) (V9 w V a (.im (.int p.1)) (.im (.int p.2)) y5 .un) ⟨y5, h5, rfl⟩ fun t ht ρ hs => by
      obtain ⟨y, hy, rfl⟩ := hs
      rw [List.mem_range] at ht
      refine ⟨V9 w V a (.im (.int p.1)) (.im (.int p.2)) (.im (.int (p.1 + 1 + (t : Nat)))) .un, by rcases hy with rfl | ⟨e, rfl⟩ <;> rfl, ?_⟩
      have x : ixD (.list (a.map .int)) (.int (p.1 + 1 + (t : Nat))) = some (.im (.int (a.getD ((p.1 + 1).toNat + t) 0))) := by
        have := @ix_a a ((p.1 + 1).toNat + t) (by omega)
        rw [show (((p.1 + 1).toNat + t : Nat) : Int) = p.1 + 1 + (t : Nat) by omega] at this
        exact this
      generalize a.getD ((p.1 + 1).toNat + t) 0 = A at *
      have k1 : tstF (opF leD (opF ixD (varF 2) (varF 5)) (varF 3)) (V9 w V a (.im (.int p.1)) (.im (.int p.2)) (.im (.int (p.1 + 1 + (t : Nat)))) .un) = .ok (decide (A ≤ p.1)) (V9 w V a (.im (.int p.1)) (.im (.int p.2)) (.im (.int (p.1 + 1 + (t : Nat)))) .un) := by simp [retS, seqS, asgS, clF, clI, clKF, isOw, consD, consF, callF, call1, drs, opF, op2, unF, op1, varF, cF, nilD, nilF, bd, bs, frz, dr, fin, dat, setN, pin_0, pin_s, np_im, np_un, np_ow, iteS, tstF, blO, nxS, dropS, mutF, mutO, thaw, tupF, lstF, tupD, lstD, andF, orF, notF, andV, orV, notV, ifF, tgS, tupU, consT, nameT, nilT, parS, slF, noO, parO, intO, slO, isnD, unS, out, retV, negD, subD, intD, unF, op1, truF, truO, tru, parN, consL, addL, nilL, parM, setL, slOf, nrm, two, ltD, gtD, leD, geD, V9, x]
      have k2 : tstF (opF geD (opF ixD (varF 2) (varF 5)) (varF 4)) (V9 w V a (.im (.int p.1)) (.im (.int p.2)) (.im (.int (p.1 + 1 + (t : Nat)))) .un) = .ok (decide (p.2 ≤ A)) (V9 w V a (.im (.int p.1)) (.im (.int p.2)) (.im (.int (p.1 + 1 + (t : Nat)))) .un) := by simp [retS, seqS, asgS, clF, clI, clKF, isOw, consD, consF, callF, call1, drs, opF, op2, unF, op1, varF, cF, nilD, nilF, bd, bs, frz, dr, fin, dat, setN, pin_0, pin_s, np_im, np_un, np_ow, iteS, tstF, blO, nxS, dropS, mutF, mutO, thaw, tupF, lstF, tupD, lstD, andF, orF, notF, andV, orV, notV, ifF, tgS, tupU, consT, nameT, nilT, parS, slF, noO, parO, intO, slO, isnD, unS, out, retV, negD, subD, intD, unF, op1, truF, truO, tru, parN, consL, addL, nilL, parM, setL, slOf, nrm, two, ltD, gtD, leD, geD, V9, x]
      have C := or_ok k1 k2
      by_cases hc : p.1 < A ∧ A < p.2
      · have e : (decide (A ≤ p.1) || decide (p.2 ≤ A)) = false := by
          rw [Bool.or_eq_false_iff]
          exact ⟨decide_eq_false (by omega), decide_eq_false (by omega)⟩
        rw [e] at C
        exact .inl ⟨by simp [hc.1, hc.2], _, (ite_f C).trans rfl, _, fr_im, rfl⟩
      · have e : (decide (A ≤ p.1) || decide (p.2 ≤ A)) = true := by
          rw [Bool.or_eq_true, decide_eq_true_eq, decide_eq_true_eq]
          omega
        rw [e] at C
        refine .inr ⟨?_, _, (ite_t C).trans rfl⟩
        rw [Bool.and_eq_false_iff, decide_eq_false_iff_not, decide_eq_false_iff_not]
        omega
  rcases L with ⟨k, ρ', e, y, hy, rfl⟩ | ⟨k, r, e⟩
  · exact .inl ⟨k, y, hy, (for_of I).trans e⟩
  · exact .inr ⟨k, r, (for_of I).trans e⟩
theorem t_outer {w : Wd} {V : D} {a : List Int} (hz : a.length ≤ 900) (ps : List P2) (hp : ∀ p ∈ ps, 0 ≤ p.1 ∧ p.1 < p.2 ∧ p.2 < (a.length : Int)) :
    (ps.all (inP a) = true ∧ ∃ ρ', forL (tupU 2 (consT (nameT 3) (consT (nameT 4) nilT))) b_out (ps.map pr) (V9 w V a .un .un .un .un) = .nx ρ' ∧ ∃ y3 y4 y5, ρ' = V9 w V a y3 y4 y5 .un) ∨
    (ps.all (inP a) = false ∧ ∃ r, forL (tupU 2 (consT (nameT 3) (consT (nameT 4) nilT))) b_out (ps.map pr) (V9 w V a .un .un .un .un) = .rt (.im (.bool false)) r) := by
  have L := loop_all (T := tupU 2 (consT (nameT 3) (consT (nameT 4) nilT))) (B := b_out) (enc := pr) (q := inP a) (S := fun ρ => ∃ y3 y4 y5, Fr y3 ∧ Fr y4 ∧ Fr y5 ∧ ρ = V9 w V a y3 y4 y5 .un) (z := .im (.bool false)) ps (V9 w V a .un .un .un .un) ⟨_, _, _, fr_un, fr_un, fr_un, rfl⟩ fun p hpm ρ hs => by
    obtain ⟨y3, y4, y5, f3, f4, f5, rfl⟩ := hs
    refine ⟨V9 w V a (.im (.int p.1)) (.im (.int p.2)) y5 .un, by rcases f3 with rfl | ⟨e, rfl⟩ <;> rcases f4 with rfl | ⟨e2, rfl⟩ <;> rfl, ?_⟩
    rcases t_in (w := w) (V := V) (hp p hpm) hz y5 f5 with ⟨k, y, fy, e⟩ | ⟨k, r, e⟩
    · exact .inl ⟨k, _, e, _, _, _, fr_im, fr_im, fy, rfl⟩
    · exact .inr ⟨k, r, e⟩
  rcases L with ⟨k, ρ', e, y3, y4, y5, _, _, _, rfl⟩ | ⟨k, r, e⟩
  · exact .inl ⟨k, _, e, y3, y4, y5, rfl⟩
  · exact .inr ⟨k, r, e⟩
end K01
end VL

namespace VL
open PySem PySem.Spec PyProof.Rows L2
open PySem.W (Datum Tup)

theorem eqD_wt (x y : Wd) : eqD (wt x) (wt y) = some (.im (.bool (decide (x = y)))) := (eqD_dt (α := Tup (Int × Int)) (by decide) ⟨x⟩ ⟨y⟩).trans (by simp)
theorem lcL_fil {α : Type} {T : Tg} {C : Rho → Ou Bool} {E : Rho → Ou Rs} {vs : List Nat} {ρ : Rho} {enc f : α → D} {q : α → Bool} : ∀ (l : List α) (acc : List D),
    (∀ a ∈ l, ∃ ρ1, T (enc a) ρ = some ρ1 ∧ C ρ1 = .ok (q a) ρ1 ∧ bd (frz (E ρ1)) dat = .ok (f a) ρ1 ∧ plainAt ρ1 vs = true ∧ wipeR ρ1 vs = ρ) → acc.length + l.length ≤ sizeLine → lcL T C E vs (l.map enc) acc ρ = .ok (acc ++ (l.filter q).map f) ρ
  | [], acc, _, _ => by simp [lcL]
  | a :: l, acc, h, hz => by
    obtain ⟨ρ1, e1, e2, e3, e4, e5⟩ := h a List.mem_cons_self
    rw [List.length_cons] at hz
    have hr : ∀ b ∈ l, _ := fun b hb => h b (List.mem_cons_of_mem _ hb)
    rw [List.map_cons, lcL, e1]
    simp only [bdn, e2]
    cases hq : q a with
    | true =>
      rw [if_pos rfl]
      simp only [e3, e4, and_true, e5]
      rw [if_pos (by omega), lcL_fil l (acc ++ [f a]) hr (by rw [List.length_append, List.length_singleton]; omega), List.filter_cons_of_pos hq]
      simp
    | false =>
      rw [if_neg Bool.false_ne_true]
      simp only [e4, if_true, e5]
      rw [lcL_fil l acc hr (by omega), List.filter_cons_of_neg (by rw [hq]; exact Bool.false_ne_true)]
theorem numD_is (w : Wd) : ∀ (k m : Nat), m + k = w.length → numD m ((w.drop m).map pr) = (List.range' m k).map fun k => .tuple [.int (k : Nat), pr (K01.wa w k)]
  | 0, m, h => by rw [List.drop_of_length_le (by omega)]; rfl
  | k + 1, m, h => by
    have hml : m < w.length := by omega
    have dr : w.drop m = K01.wa w m :: w.drop (m + 1) := by
      rw [List.drop_eq_getElem_cons hml]
      simp [K01.wa, List.getD_eq_getElem?_getD, hml]
    rw [dr, List.range'_succ, List.map_cons, List.map_cons, ← numD_is w k (m + 1) (by omega)]
    rfl
namespace K01
theorem rest_lc {w : Wd} {V : D} {a : List Int} {y3 y4 y5 : Sl} (ha : a.length = w.length) (hz : w.length ≤ 900) : lcF (enumUI (varF 0)) (tupU 2 (consT (nameT 7) (consT (nameT 8) nilT))) (tstF (opF eqD (opF ixD (varF 2) (varF 7)) (unF negD (cF (.int 1))))) (varF 8) [7, 8] (V9 w V a y3 y4 y5 .un) = .ok (.fr ((restW w a).map pr)) (V9 w V a y3 y4 y5 .un) := by
  have I : enumUI (varF 0) (V9 w V a y3 y4 y5 .un) = .ok ((List.range w.length).map fun k => .tuple [.int (k : Nat), pr (wa w k)]) (V9 w V a y3 y4 y5 .un) := by
    have := numD_is w w.length 0 (by omega)
    rw [List.drop_zero, ← List.range_eq_range'] at this
    rw [← this]
    simp [enumUI, V9, varF, bd, frz, dat, enumUO, wt]
  unfold lcF
  rw [I, bd_ok, if_pos (show plainAt _ _ = true from rfl), show wipeR (V9 w V a y3 y4 y5 .un) [7, 8] = V9 w V a y3 y4 y5 .un from rfl,
    lcL_fil (f := fun k => pr (wa w k)) (q := fun k => decide (a.getD k 0 = -1)) (List.range w.length) [] (fun k hk => ?_) (by simp [sizeLine_eq]; omega)]
  · rw [bd_ok]
    unfold restW
    rw [List.map_map]
    rfl
  · rw [List.mem_range] at hk
    have x := @ix_a a k (by omega)
    have n := eqD_int (a.getD k 0) (-1)
    refine ⟨[.im (wt w), .im V, .ow false (a.map .int), y3, y4, y5, .un, .im (.int (k : Nat)), .im (pr (wa w k))], rfl, ?_, rfl, rfl, rfl⟩
    generalize a.getD k 0 = A at *
    simp [retS, seqS, asgS, clF, clI, clKF, isOw, consD, consF, callF, call1, drs, opF, op2, unF, op1, varF, cF, nilD, nilF, bd, bs, frz, dr, fin, dat, setN, pin_0, pin_s, np_im, np_un, np_ow, iteS, tstF, blO, nxS, dropS, mutF, mutO, thaw, tupF, lstF, tupD, lstD, andF, orF, notF, andV, orV, notV, ifF, tgS, tupU, consT, nameT, nilT, parS, slF, noO, parO, intO, slO, isnD, unS, out, retV, negD, subD, intD, unF, op1, truF, truO, tru, parN, consL, addL, nilL, parM, setL, slOf, nrm, two, ltD, gtD, leD, geD, x, n]
theorem cl_of {n : Nat} {m : List Sl → Fo} {F : Rho → Ou (List D)} {ρ ρ' : Rho} {ds : List D} {z : Ou Rs} (h : F ρ = .ok ds ρ') (e : foE n m ds ρ' = z) : clF n m F ρ = z := by
  unfold clF
  rw [h]
  exact e
theorem hd_z2n {w : Wd} {V : D} {m : List Sl → Fo} (v : ∀ ρ, foE 2 m [wt w, V] ρ = .ok (.im .none) ρ) : asgS 2 (clF 2 m (consD (varF 0) (consD (varF 1) nilD))) [.im (wt w), .im V, .un, .un, .un, .un, .un, .un, .un] = .nx [.im (wt w), .im V, .im .none, .un, .un, .un, .un, .un, .un] := by
  unfold asgS
  rw [cl_of (n := 2) (m := m) (F := consD (varF 0) (consD (varF 1) nilD)) (ds := [wt w, V]) (ρ := [.im (wt w), .im V, .un, .un, .un, .un, .un, .un, .un]) (ρ' := [.im (wt w), .im V, .un, .un, .un, .un, .un, .un, .un]) rfl (v _)]
  rfl
theorem hd_z2s {w : Wd} {V : D} {m : List Sl → Fo} {a : List Int} (v : ∀ ρ, foE 2 m [wt w, V] ρ = .ok (.fr (a.map .int)) ρ) : asgS 2 (clF 2 m (consD (varF 0) (consD (varF 1) nilD))) [.im (wt w), .im V, .un, .un, .un, .un, .un, .un, .un] = .nx (V9 w V a .un .un .un .un) := by
  unfold asgS
  rw [cl_of (n := 2) (m := m) (F := consD (varF 0) (consD (varF 1) nilD)) (ds := [wt w, V]) (ρ := [.im (wt w), .im V, .un, .un, .un, .un, .un, .un, .un]) (ρ' := [.im (wt w), .im V, .un, .un, .un, .un, .un, .un, .un]) rfl (v _)]
  rfl
theorem hd_z0 {d V : D} {w : Wd} {m : List Sl → Fo} (v : ∀ ρ, foE 2 m [d, .int (-1)] ρ = .ok (.im (wt w)) ρ) : asgS 0 (clF 2 m (consD (varF 0) (consD (unF negD (cF (.int 1))) nilD))) [.im d, .im V, .un, .un, .un, .un, .un, .un, .un] = .nx [.im (wt w), .im V, .un, .un, .un, .un, .un, .un, .un] := by
  unfold asgS
  rw [cl_of (n := 2) (m := m) (F := consD (varF 0) (consD (unF negD (cF (.int 1))) nilD)) (ds := [d, .int (-1)]) (ρ := [.im d, .im V, .un, .un, .un, .un, .un, .un, .un]) (ρ' := [.im d, .im V, .un, .un, .un, .un, .un, .un, .un]) rfl (v _)]
  rfl
theorem hd_end {w : Wd} {V : D} {a : List Int} {m : List Sl → Fo} {y3 y4 y5 : Sl} {Y X : D} {zb : Bool} (v : ∀ ρ, foE 1 m [Y] ρ = .ok (.im X) ρ) (e : eqD X Y = some (.im (.bool zb))) : out (retS (opF eqD (clF 1 m (consD (varF 6) nilD)) (varF 6)) (V9 w V a y3 y4 y5 (.im Y))) = some (.im (.bool zb)) := by
  unfold retS opF
  rw [cl_of (n := 1) (m := m) (F := consD (varF 6) nilD) (ds := [Y]) (ρ := V9 w V a y3 y4 y5 (.im Y)) (ρ' := V9 w V a y3 y4 y5 (.im Y)) rfl (v _)]
  show out (bs (fin (eqD X Y) _) _) = _
  rw [e]
  rfl
theorem v_hold {d : D} {w : Wd} (h : isW d w) (hz : w.length ≤ 900) (ps : List P2) (ρ : Rho) : foE 2 m_strikes_hold [d, .tuple (ps.map pr)] ρ = .ok (.im (.bool (hold w ps))) ρ := by
  have nw := v_need_word h (by rw [sizeLine_eq]; omega) (.int (-1))
  refine foE_of (n := 2) (k := 7) (G := G_strikes_hold) (ds := [d, .tuple (ps.map pr)]) ?_ rfl ρ
  have z0 : asgS 0 (clF 2 m_need_word (consD (varF 0) (consD (unF negD (cF (.int 1))) nilD))) [.im d, .im (.tuple (ps.map pr)), .un, .un, .un, .un, .un, .un, .un] = .nx [.im (wt w), .im (.tuple (ps.map pr)), .un, .un, .un, .un, .un, .un, .un] := hd_z0 nw
  have it : isiD "tuple" (.tuple (ps.map pr)) = some (.im (.bool true)) := rfl
  have z1 : iteS (notF (tstF (unF (isiD "tuple") (varF 1)))) (retS (cF (.bool false))) nxS [.im (wt w), .im (.tuple (ps.map pr)), .un, .un, .un, .un, .un, .un, .un] = .nx [.im (wt w), .im (.tuple (ps.map pr)), .un, .un, .un, .un, .un, .un, .un] := by simp [retS, seqS, asgS, clF, clI, clKF, isOw, consD, consF, callF, call1, drs, opF, op2, unF, op1, varF, cF, nilD, nilF, bd, bs, frz, dr, fin, dat, setN, pin_0, pin_s, np_im, np_un, np_ow, iteS, tstF, blO, nxS, dropS, mutF, mutO, thaw, tupF, lstF, tupD, lstD, andF, orF, notF, andV, orV, notV, ifF, tgS, tupU, consT, nameT, nilT, parS, slF, noO, parO, intO, slO, isnD, unS, out, retV, negD, subD, intD, unF, op1, truF, truO, tru, parN, consL, addL, nilL, parM, setL, slOf, nrm, two, ltD, gtD, leD, geD, it]
  unfold G_strikes_hold
  show out (seqS _ (seqS _ (seqS _ (seqS _ (seqS (forS _ _ b_out) _)))) [.im d, .im (.tuple (ps.map pr)), .un, .un, .un, .un, .un, .un, .un]) = _
  rw [seq_nx z0, seq_nx z1]
  unfold hold
  cases hp : pnO w ps with
  | none =>
    have v := v_pn_none hz hp []
    rw [List.append_nil] at v
    have z2 : asgS 2 (clF 2 m_partners_or_none (consD (varF 0) (consD (varF 1) nilD))) [.im (wt w), .im (.tuple (ps.map pr)), .un, .un, .un, .un, .un, .un, .un] = .nx [.im (wt w), .im (.tuple (ps.map pr)), .im .none, .un, .un, .un, .un, .un, .un] := hd_z2n v
    rw [seq_nx z2, seq_rt (show iteS (tstF (unF (isnD false) (varF 2))) (retS (cF (.bool false))) nxS _ = .rt (.im (.bool false)) [.im (wt w), .im (.tuple (ps.map pr)), .im .none, .un, .un, .un, .un, .un, .un] from rfl)]
    rfl
  | some a =>
    have v := v_pn_some hz hp
    have hb := pn_b hp
    have ha : a.length = w.length := hb.1.trans (by simp)
    have z2 : asgS 2 (clF 2 m_partners_or_none (consD (varF 0) (consD (varF 1) nilD))) [.im (wt w), .im (.tuple (ps.map pr)), .un, .un, .un, .un, .un, .un, .un] = .nx (V9 w (.tuple (ps.map pr)) a .un .un .un .un) := hd_z2s v
    have z3 : iteS (tstF (unF (isnD false) (varF 2))) (retS (cF (.bool false))) nxS (V9 w (.tuple (ps.map pr)) a .un .un .un .un) = .nx (V9 w (.tuple (ps.map pr)) a .un .un .un .un) := rfl
    rw [seq_nx z2, seq_nx z3]
    have I : seqI (varF 1) (V9 w (.tuple (ps.map pr)) a .un .un .un .un) = .ok (ps.map pr) (V9 w (.tuple (ps.map pr)) a .un .un .un .un) := rfl
    rcases t_outer (w := w) (V := .tuple (ps.map pr)) (a := a) (by omega) ps (fun p hp' => by have := hb.2 p hp'; omega) with ⟨k, ρ', e, y3, y4, y5, rfl⟩ | ⟨k, r, e⟩
    · rw [seq_nx ((for_of I).trans e)]
      dsimp only
      rw [k, Bool.true_and]
      have z4 : asgS 6 (unF tupleD (lcF (enumUI (varF 0)) (tupU 2 (consT (nameT 7) (consT (nameT 8) nilT))) (tstF (opF eqD (opF ixD (varF 2) (varF 7)) (unF negD (cF (.int 1))))) (varF 8) [7, 8])) (V9 w (.tuple (ps.map pr)) a y3 y4 y5 .un) = .nx (V9 w (.tuple (ps.map pr)) a y3 y4 y5 (.im (wt (restW w a)))) := by
        simp only [asgS, unF, rest_lc ha hz, bd, frz, op1, dr, tupleD, fin, bs]
        rfl
      have sl : (restW w a).length ≤ 900 := by
        unfold restW
        rw [List.length_map]
        exact Nat.le_trans (List.length_filter_le _ _) (by simpa using hz)
      have vs := v_struckT (restW w a) (by rw [sizeLine_eq]; omega)
      have ee := eqD_wt (strike (restW w a)) (restW w a)
      rw [seq_nx z4]
      generalize wt (strike (restW w a)) = X at *
      generalize decide (strike (restW w a) = restW w a) = zb at *
      generalize wt (restW w a) = Y at *
      exact hd_end vs ee
    · rw [seq_rt ((for_of I).trans e)]
      dsimp only
      rw [k, Bool.false_and]
      rfl
theorem hold_not {d e : D} {w : Wd} (h : isW d w) (hz : w.length ≤ 900) (he : isI "tuple" e = false) (ρ : Rho) : foE 2 m_strikes_hold [d, e] ρ = .ok (.im (.bool false)) ρ := by
  have nw := v_need_word h (by rw [sizeLine_eq]; omega) (.int (-1))
  refine foE_of (n := 2) (k := 7) (G := G_strikes_hold) (ds := [d, e]) ?_ rfl ρ
  have z0 : asgS 0 (clF 2 m_need_word (consD (varF 0) (consD (unF negD (cF (.int 1))) nilD))) [.im d, .im e, .un, .un, .un, .un, .un, .un, .un] = .nx [.im (wt w), .im e, .un, .un, .un, .un, .un, .un, .un] := hd_z0 nw
  have it : isiD "tuple" e = some (.im (.bool false)) := by unfold isiD; rw [he]
  unfold G_strikes_hold
  show out (seqS _ _ [.im d, .im e, .un, .un, .un, .un, .un, .un, .un]) = _
  rw [seq_nx z0]
  exact congrArg out (seq_rt (show iteS (notF (tstF (unF (isiD "tuple") (varF 1)))) (retS (cF (.bool false))) nxS [.im (wt w), .im e, .un, .un, .un, .un, .un, .un, .un] = .rt (.im (.bool false)) [.im (wt w), .im e, .un, .un, .un, .un, .un, .un, .un] from by simp [retS, seqS, asgS, clF, clI, clKF, isOw, consD, consF, callF, call1, drs, opF, op2, unF, op1, varF, cF, nilD, nilF, bd, bs, frz, dr, fin, dat, setN, pin_0, pin_s, np_im, np_un, np_ow, iteS, tstF, blO, nxS, dropS, mutF, mutO, thaw, tupF, lstF, tupD, lstD, andF, orF, notF, andV, orV, notV, ifF, tgS, tupU, consT, nameT, nilT, parS, slF, noO, parO, intO, slO, isnD, unS, out, retV, negD, subD, intD, unF, op1, truF, truO, tru, parN, consL, addL, nilL, parM, setL, slOf, nrm, two, ltD, gtD, leD, geD, it]))
end K01
end VL

namespace VL
open PySem PySem.Spec PyProof.Rows L2
open PySem.W (Datum Tup)

namespace K01
def plcI (ps : List P2) : List Int := ps.flatMap fun p => [p.1, p.2]
theorem plcI_in {ps : List P2} {k : Int} : k ∈ plcI ps ↔ ∃ p ∈ ps, k = p.1 ∨ k = p.2 := by simp [plcI]
theorem plcI_app (a b : List P2) : plcI (a ++ b) = plcI a ++ plcI b := by simp [plcI]
def lt2 (p q : P2) : Prop := p.1 < q.1 ∨ (p.1 = q.1 ∧ p.2 < q.2)
def asc : P2 → List P2 → Prop
  | _, [] => True
  | b, p :: r => lt2 b p ∧ asc p r
theorem lexI_iff {p b : P2} : lexI [p.1, p.2] [b.1, b.2] = true ↔ ¬ lt2 b p := by
  unfold lexI lt2
  show Ob.lexAt _ _ _ 0 2 = true ↔ _
  rw [Ob.lexAt_succ, Ob.lexAt_succ, Ob.lexAt_zero]
  show (if decide (p.1 = b.1) = true then (if decide (p.2 = b.2) = true then decide (2 ≤ 2) else decide (p.2 ≤ b.2)) else decide (p.1 ≤ b.1)) = true ↔ _
  by_cases h1 : p.1 = b.1 <;> by_cases h2 : p.2 = b.2 <;> simp [h1, h2] <;> omega
def okP (w : Wd) (p : P2) : Prop := 0 ≤ p.1 ∧ p.1 < p.2 ∧ p.2 < (w.length : Int) ∧ und (wa w p.1.toNat) (wa w p.2.toNat)
/-- a tells the partners of qs -/
structure Dsc (w : Wd) (a : List Int) (qs : List P2) : Prop where
  len : a.length = w.length
  free : ∀ k : Nat, k < w.length → (a.getD k 0 = -1 ↔ (k : Int) ∉ plcI qs)
  one : ∀ q ∈ qs, a.getD q.1.toNat 0 = q.2 ∧ a.getD q.2.toNat 0 = q.1
theorem dsc_nil (w : Wd) : Dsc w (mone w.length) [] := ⟨by simp, fun k hk => by
  rw [List.getD_eq_getElem?_getD, List.getElem?_replicate]
  simp [hk, plcI], fun _ z => nomatch z⟩
theorem getD_set {a : List Int} {i k : Nat} {x : Int} (hi : i < a.length) : (a.set i x).getD k 0 = if k = i then x else a.getD k 0 := by
  rw [List.getD_eq_getElem?_getD, List.getElem?_set, List.getD_eq_getElem?_getD]
  by_cases h : i = k
  · subst h; simp [hi]
  · have h' : ¬ k = i := fun e => h e.symm
    simp [h, h']
theorem dsc_step {w : Wd} {a : List Int} {qs : List P2} {p : P2} (D : Dsc w a qs) (bq : ∀ q ∈ qs, okP w q) (hp : okP w p) (h1 : p.1 ∉ plcI qs) (h2 : p.2 ∉ plcI qs) : Dsc w ((a.set p.1.toNat p.2).set p.2.toNat p.1) (qs ++ [p]) := by
  obtain ⟨p0, p1, p2, pu⟩ := hp
  have l := D.len
  have g : ∀ k : Nat, ((a.set p.1.toNat p.2).set p.2.toNat p.1).getD k 0 = if k = p.2.toNat then p.1 else if k = p.1.toNat then p.2 else a.getD k 0 := fun k => by
    rw [getD_set (by rw [List.length_set]; omega), getD_set (by omega)]
  refine ⟨by rw [List.length_set, List.length_set]; exact l, fun k hk => ?_, fun q hq => ?_⟩
  · rw [g, plcI_app, List.mem_append]
    have hpl : (k : Int) ∈ plcI [p] ↔ k = p.1.toNat ∨ k = p.2.toNat := by
      simp [plcI]
      omega
    rw [hpl]
    have f := D.free k hk
    by_cases c1 : k = p.2.toNat
    · rw [if_pos c1]
      constructor
      · intro e; omega
      · intro z; exact absurd (.inr (.inr c1)) z
    · rw [if_neg c1]
      by_cases c2 : k = p.1.toNat
      · rw [if_pos c2]
        constructor
        · intro e; omega
        · intro z; exact absurd (.inr (.inl c2)) z
      · rw [if_neg c2, f]
        constructor
        · rintro z (y | y | y)
          · exact z y
          · exact c2 y
          · exact c1 y
        · intro z y; exact z (.inl y)
  · rw [g, g]
    rcases List.mem_append.mp hq with z | z
    · obtain ⟨e1, e2⟩ := D.one q z
      have b := bq q z
      unfold okP at b
      have n1 : q.1 ≠ p.1 := fun e => h1 (plcI_in.mpr ⟨q, z, .inl e.symm⟩)
      have n2 : q.2 ≠ p.1 := fun e => h1 (plcI_in.mpr ⟨q, z, .inr e.symm⟩)
      have n3 : q.1 ≠ p.2 := fun e => h2 (plcI_in.mpr ⟨q, z, .inl e.symm⟩)
      have n4 : q.2 ≠ p.2 := fun e => h2 (plcI_in.mpr ⟨q, z, .inr e.symm⟩)
      rw [if_neg (by omega), if_neg (by omega), if_neg (by omega), if_neg (by omega)]
      exact ⟨e1, e2⟩
    · rw [List.mem_singleton] at z
      subst z
      rw [if_neg (by omega), if_pos rfl, if_pos rfl]
      exact ⟨rfl, rfl⟩
theorem pn_spec {w : Wd} : ∀ (ps qs : List P2) (a : List Int) (bf : P2), Dsc w a qs → (∀ q ∈ qs, okP w q) → (plcI qs).Nodup →
    ((∃ a', pn w ps a bf = some a' ∧ Dsc w a' (qs ++ ps)) ∧ asc bf ps ∧ (∀ p ∈ ps, okP w p) ∧ (plcI (qs ++ ps)).Nodup) ∨
    (pn w ps a bf = none ∧ ¬ (asc bf ps ∧ (∀ p ∈ ps, okP w p) ∧ (plcI (qs ++ ps)).Nodup))
  | [], qs, a, bf, D, bq, nd => .inl ⟨⟨a, rfl, by rw [List.append_nil]; exact D⟩, True.intro, fun _ z => (nomatch z), by rw [List.append_nil]; exact nd⟩
  | p :: ps, qs, a, bf, D, bq, nd => by
    have e0 : qs ++ p :: ps = (qs ++ [p]) ++ ps := by simp
    have rj : pnS w a bf p = none → ¬ (lt2 bf p ∧ okP w p ∧ p.1 ∉ plcI qs ∧ p.2 ∉ plcI qs) := fun e => by
      rintro ⟨l, o, n1, n2⟩
      obtain ⟨o1, o2, o3, o4⟩ := o
      unfold pnS at e
      rw [if_neg (by
        rintro (z | z | z | z)
        · omega
        · omega
        · omega
        · exact lexI_iff.mp z l), if_neg (by
        rintro (z | z | z)
        · have := (D.free p.1.toNat (by omega)).mpr (by rw [Int.toNat_of_nonneg o1]; exact n1)
          exact z this
        · have := (D.free p.2.toNat (by omega)).mpr (by rw [Int.toNat_of_nonneg (by omega)]; exact n2)
          exact z this
        · exact z o4)] at e
      cases e
    have ac : ∀ b, pnS w a bf p = some b → (lt2 bf p ∧ okP w p ∧ p.1 ∉ plcI qs ∧ p.2 ∉ plcI qs) ∧ b = (a.set p.1.toNat p.2).set p.2.toNat p.1 := fun b e => by
      have k := pnS_len e
      unfold pnS at e
      split at e
      · cases e
      · rename_i c
        split at e
        · cases e
        · rename_i c2
          have l : lt2 bf p := by
            refine Classical.byContradiction fun z => c (.inr (.inr (.inr (lexI_iff.mpr z))))
          have x1 : a.getD p.1.toNat 0 = -1 := Classical.byContradiction fun z => c2 (.inl z)
          have x2 : a.getD p.2.toNat 0 = -1 := Classical.byContradiction fun z => c2 (.inr (.inl z))
          have x3 : und (wa w p.1.toNat) (wa w p.2.toNat) := Classical.byContradiction fun z => c2 (.inr (.inr z))
          have y1 := (D.free p.1.toNat (by omega)).mp x1
          have y2 := (D.free p.2.toNat (by omega)).mp x2
          rw [Int.toNat_of_nonneg k.2.1] at y1
          rw [Int.toNat_of_nonneg (by omega)] at y2
          exact ⟨⟨l, ⟨k.2.1, k.2.2.1, k.2.2.2, x3⟩, y1, y2⟩, (Option.some.inj e).symm⟩
    unfold pn
    cases e : pnS w a bf p with
    | none =>
      refine .inr ⟨rfl, fun ⟨z1, z2, z3⟩ => rj e ⟨z1.1, z2 p List.mem_cons_self, ?_, ?_⟩⟩
      · rw [plcI_app] at z3
        exact fun y => (List.nodup_append.mp z3).2.2 _ y _ (plcI_in.mpr ⟨p, List.mem_cons_self, .inl rfl⟩) rfl
      · rw [plcI_app] at z3
        exact fun y => (List.nodup_append.mp z3).2.2 _ y _ (plcI_in.mpr ⟨p, List.mem_cons_self, .inr rfl⟩) rfl
    | some b =>
      obtain ⟨⟨l, o, n1, n2⟩, rfl⟩ := ac b e
      have D2 := dsc_step D bq o n1 n2
      have bq2 : ∀ q ∈ qs ++ [p], okP w q := fun q hq => by
        rcases List.mem_append.mp hq with z | z
        · exact bq q z
        · rw [List.mem_singleton] at z; subst z; exact o
      have nd2 : (plcI (qs ++ [p])).Nodup := by
        rw [plcI_app]
        refine List.nodup_append.mpr ⟨nd, ?_, ?_⟩
        · have := o.2.1
          simp [plcI]
          omega
        · intro x hx y hy e
          subst e
          simp [plcI] at hy
          rcases hy with rfl | rfl
          · exact n1 hx
          · exact n2 hx
      rw [e0]
      rcases pn_spec ps (qs ++ [p]) _ p D2 bq2 nd2 with ⟨⟨a', h1, h2⟩, h3, h4, h5⟩ | ⟨h1, h2⟩
      · refine .inl ⟨⟨a', h1, h2⟩, ⟨l, h3⟩, fun q hq => ?_, h5⟩
        rcases List.mem_cons.mp hq with rfl | hq
        · exact o
        · exact h4 q hq
      · exact .inr ⟨h1, fun ⟨z1, z2, z3⟩ => h2 ⟨z1.2, fun q hq => z2 q (List.mem_cons_of_mem _ hq), z3⟩⟩
end K01
end VL

namespace VL
open PySem PySem.Spec PyProof.Rows L2
open PySem.W (Datum Tup)

namespace K01
def nest (ps : List P2) : Prop := ∀ p ∈ ps, ∀ k : Int, p.1 < k → k < p.2 → ∃ q ∈ ps, p.1 < q.1 ∧ q.2 < p.2 ∧ (k = q.1 ∨ k = q.2)
def restP (w : Wd) (ps : List P2) : Wd := ((List.range w.length).filter fun k : Nat => decide ((k : Int) ∉ plcI ps)).map (wa w)
structure PP (w : Wd) (ps : List P2) : Prop where
  asc : asc (-1, -1) ps
  ok : ∀ p ∈ ps, okP w p
  nd : (plcI ps).Nodup
  nest : nest ps
  rest : strike (restP w ps) = restP w ps
theorem rest_eq {w : Wd} {a : List Int} {ps : List P2} (D : Dsc w a ps) : restW w a = restP w ps := by
  unfold restW restP
  congr 1
  refine List.filter_congr fun k hk => ?_
  rw [List.mem_range] at hk
  exact decide_eq_decide.mpr (D.free k hk)
theorem inP_iff {w : Wd} {a : List Int} {ps : List P2} (D : Dsc w a ps) (ok : ∀ p ∈ ps, okP w p) {p : P2} (hp : p ∈ ps) : inP a p = true ↔ ∀ k : Int, p.1 < k → k < p.2 → ∃ q ∈ ps, p.1 < q.1 ∧ q.2 < p.2 ∧ (k = q.1 ∨ k = q.2) := by
  have o := ok p hp
  obtain ⟨o1, o2, o3, _⟩ := o
  unfold inP
  rw [List.all_eq_true]
  constructor
  · intro h k k1 k2
    have t := h (k - (p.1 + 1)).toNat (by rw [List.mem_range]; omega)
    rw [show (p.1 + 1).toNat + (k - (p.1 + 1)).toNat = k.toNat by omega, Bool.and_eq_true, decide_eq_true_eq, decide_eq_true_eq] at t
    have hk : (k.toNat : Int) ∈ plcI ps := Classical.byContradiction fun z => by
      have := (D.free k.toNat (by omega)).mpr z
      omega
    rw [Int.toNat_of_nonneg (by omega)] at hk
    obtain ⟨q, hq, e⟩ := plcI_in.mp hk
    obtain ⟨d1, d2⟩ := D.one q hq
    have oq := ok q hq
    obtain ⟨q1, q2, q3, _⟩ := oq
    rcases e with e | e
    · rw [e, d1] at t
      exact ⟨q, hq, by omega, by omega, .inl e⟩
    · rw [e, d2] at t
      exact ⟨q, hq, by omega, by omega, .inr e⟩
  · intro h t ht
    rw [List.mem_range] at ht
    obtain ⟨q, hq, b1, b2, e⟩ := h (p.1 + 1 + (t : Int)) (by omega) (by omega)
    obtain ⟨d1, d2⟩ := D.one q hq
    have oq := ok q hq
    obtain ⟨q1, q2, q3, _⟩ := oq
    rw [Bool.and_eq_true, decide_eq_true_eq, decide_eq_true_eq]
    rcases e with e | e
    · rw [show (p.1 + 1).toNat + t = q.1.toNat by omega, d1]
      omega
    · rw [show (p.1 + 1).toNat + t = q.2.toNat by omega, d2]
      omega
theorem hold_iff {w : Wd} {ps : List P2} : hold w ps = true ↔ PP w ps := by
  have s := pn_spec ps [] (mone w.length) (-1, -1) (dsc_nil w) (fun _ z => nomatch z) (by simp [plcI])
  rw [List.nil_append] at s
  unfold hold
  rcases s with ⟨⟨a, h1, D⟩, h2, h3, h4⟩ | ⟨h1, h2⟩
  · rw [show pnO w ps = some a from h1]
    dsimp only
    rw [rest_eq D, Bool.and_eq_true, decide_eq_true_eq, List.all_eq_true]
    constructor
    · rintro ⟨x, y⟩
      exact ⟨h2, h3, h4, fun p hp => (inP_iff D h3 hp).mp (x p hp), y⟩
    · intro z
      exact ⟨fun p hp => (inP_iff D h3 hp).mpr (z.nest p hp), z.rest⟩
  · rw [show pnO w ps = none from h1]
    constructor
    · intro z; cases z
    · intro z; exact absurd ⟨z.asc, z.ok, z.nd⟩ h2
/-! ### what is struck in any order is fit -/
theorem asc_of : ∀ {l : List P2} {b : P2}, Sd l → (∀ p ∈ l, lt2 b p) → l.Nodup → asc b l
  | [], _, _, _, _ => True.intro
  | p :: r, b, h, hb, nd => by
    have h' := List.pairwise_cons.mp h
    have n' := List.nodup_cons.mp nd
    refine ⟨hb p List.mem_cons_self, asc_of h'.2 (fun q hq => ?_) n'.2⟩
    have l := lePr_iff.mp (h'.1 q hq)
    unfold lt2
    rcases l with l | ⟨l1, l2⟩
    · exact .inl l
    · refine .inr ⟨l1, ?_⟩
      rcases Int.lt_or_le p.2 q.2 with z | z
      · exact z
      · exact absurd (show p = q from Prod.ext l1 (by omega)) fun e => n'.1 (e ▸ hq)
theorem nd_of {l : List P2} (h : (plcI l).Nodup) : l.Nodup := by
  induction l with
  | nil => exact List.nodup_nil
  | cons p r ih =>
    have e : plcI (p :: r) = plcI [p] ++ plcI r := plcI_app [p] r
    rw [e] at h
    have h' := List.nodup_append.mp h
    refine List.nodup_cons.mpr ⟨fun hp => ?_, ih h'.2.1⟩
    exact h'.2.2 p.1 (by simp [plcI]) p.1 (plcI_in.mpr ⟨p, hp, .inl rfl⟩) rfl
theorem plc_tp (ps : List (Nat × Nat)) : plcI (ps.map tp) = (plc ps).map fun (k : Nat) => (k : Int) := by
  induction ps with
  | nil => rfl
  | cons p r ih =>
    have e1 : plcI ((p :: r).map tp) = plcI [tp p] ++ plcI (r.map tp) := plcI_app [tp p] (r.map tp)
    have e2 : plc (p :: r) = plc [p] ++ plc r := plc_app [p] r
    rw [e1, e2, ih, List.map_append]
    rfl
theorem perm_plcI {a b : List P2} (h : a.Perm b) : (plcI a).Perm (plcI b) := List.Perm.flatMap_right _ h
theorem red_strike {x : Wd} (h : Red x.reverse) : strike x = x := by
  unfold strike
  rw [red_run x [] (by rw [List.append_nil]; exact h), List.append_nil, List.reverse_reverse]
theorem fit_rest {w : Wd} {l : List Nat} {ps : List (Nat × Nat)} (F : Fit w l ps) : restP w ((isrt (ps.map tp))) = l.map (wa w) := by
  unfold restP
  congr 1
  have nod : (l ++ plc ps).Nodup := F.perm.nodup_iff.mpr List.nodup_range
  have mem : ∀ k : Nat, ((k : Int) ∉ plcI (isrt (ps.map tp))) ↔ k ∉ plc ps := fun k => by
    rw [(perm_plcI (isrt_perm _)).mem_iff, plc_tp]
    simp
    exact ⟨fun h z => h k z rfl, fun h x hx e => h (by have e2 : x = k := (by omega); exact e2 ▸ hx)⟩
  have e1 : ((List.range w.length).filter fun k : Nat => decide ((k : Int) ∉ plcI (isrt (ps.map tp)))).Perm l := by
    have a1 : ((l ++ plc ps).filter fun k : Nat => decide ((k : Int) ∉ plcI (isrt (ps.map tp)))) = l := by
      rw [List.filter_append]
      have b1 : l.filter (fun k : Nat => decide ((k : Int) ∉ plcI (isrt (ps.map tp)))) = l := List.filter_eq_self.mpr fun k hk => decide_eq_true ((mem k).mpr fun z => (List.nodup_append.mp nod).2.2 k hk k z rfl)
      have b2 : (plc ps).filter (fun k : Nat => decide ((k : Int) ∉ plcI (isrt (ps.map tp)))) = [] := List.filter_eq_nil_iff.mpr fun k hk z => (mem k).mp (of_decide_eq_true z) hk
      rw [b1, b2, List.append_nil]
    have a2 := F.perm.symm.filter fun k : Nat => decide ((k : Int) ∉ plcI (isrt (ps.map tp)))
    rw [a1] at a2
    exact a2
  have s1 : ((List.range w.length).filter fun k : Nat => decide ((k : Int) ∉ plcI (isrt (ps.map tp)))).Pairwise (· < ·) := List.Pairwise.filter _ List.pairwise_lt_range
  exact List.Perm.eq_of_pairwise (fun a b _ _ h1 h2 => absurd h1 (by omega)) s1 F.asc e1
theorem fit_PP {w : Wd} {l : List Nat} {ps : List (Nat × Nat)} (F : Fit w l ps) (hr : Red (l.map (wa w)).reverse) : PP w (isrt (ps.map tp)) ∧ strike w = l.map (wa w) := by
  have nod : (l ++ plc ps).Nodup := F.perm.nodup_iff.mpr List.nodup_range
  have nd : (plcI (isrt (ps.map tp))).Nodup := by
    rw [(perm_plcI (isrt_perm _)).nodup_iff, plc_tp]
    exact List.pairwise_map.mpr ((List.nodup_append.mp nod).2.1.imp fun {a b} (h : a ≠ b) => by intro e; exact h (by omega))
  have mem : ∀ p, p ∈ isrt (ps.map tp) ↔ ∃ q ∈ ps, tp q = p := fun p => by
    rw [(isrt_perm _).mem_iff, List.mem_map]
  have rs := red_strike hr
  refine ⟨⟨asc_of (isrt_sd _) (fun p hp => ?_) (nd_of nd), fun p hp => ?_, nd, fun p hp k k1 k2 => ?_, ?_⟩, ?_⟩
  · obtain ⟨q, hq, rfl⟩ := (mem p).mp hp
    exact .inl (by show (-1 : Int) < (q.1 : Int); omega)
  · obtain ⟨q, hq, rfl⟩ := (mem p).mp hp
    obtain ⟨p1, p2⟩ := F.pair q hq
    have b : q.2 ∈ List.range w.length := F.perm.mem_iff.mp (List.mem_append_right _ (plc_in.mpr ⟨q, hq, .inr rfl⟩))
    rw [List.mem_range] at b
    exact ⟨by show (0 : Int) ≤ (q.1 : Int); omega, by show (q.1 : Int) < (q.2 : Int); omega, by show (q.2 : Int) < _; omega, p2⟩
  · obtain ⟨q, hq, rfl⟩ := (mem p).mp hp
    have k1 : (q.1 : Int) < k := k1
    have k2 : k < (q.2 : Int) := k2
    obtain ⟨r, hr, r1, r2, r3, r4⟩ := F.inn q hq k.toNat (by omega) (by omega)
    refine ⟨tp r, (mem _).mpr ⟨r, hr, rfl⟩, by show (q.1 : Int) < (r.1 : Int); omega, by show (r.2 : Int) < (q.2 : Int); omega, ?_⟩
    rcases r4 with e | e
    · exact .inl (by show k = (r.1 : Int); omega)
    · exact .inr (by show k = (r.2 : Int); omega)
  · rw [fit_rest F]
    exact rs
  · rw [← strike_eqv F.eqv]
    exact rs
end K01
end VL

namespace VL
open PySem PySem.Spec PyProof.Rows L2
open PySem.W (Datum Tup)

theorem notin_ints (k : Int) (is : List Int) : inDl true (.int k) (.list (is.map .int)) = some (.im (.bool (decide (k ∉ is)))) := by
  have h := K01.in_ints k is
  have s1 : SeqAt.shaped (.int k) = true := shaped_dt (α := Int) (by decide) k
  have s2 : SeqAt.shaped (.list (is.map .int)) = true := shaped_dt (α := List Int) (by decide) is
  unfold inDl at h ⊢
  dsimp only at h ⊢
  rw [if_pos ⟨s1, s2⟩] at h ⊢
  unfold inO at h ⊢
  rw [if_neg Bool.false_ne_true] at h
  rw [if_pos rfl]
  have e := PyData.bool.inj (Rs.im.inj (Option.some.inj h))
  rw [e]
  simp
namespace K01
def qf (p : P2) (k : Int) (q : P2) : Bool := decide (p.1 < q.1 ∧ q.1 < q.2 ∧ q.2 < p.2 ∧ (k = q.1 ∨ k = q.2))
def chk (w : Wd) (ps : List P2) (p : P2) : Bool := decide (p.1 < p.2 ∧ und (wa w p.1.toNat) (wa w p.2.toNat)) && (List.range (p.2 - (p.1 + 1)).toNat).all fun t : Nat => decide ((ps.filter (qf p (p.1 + 1 + (t : Int)))).length = 1)
def adj (x : Wd) (k : Nat) : Bool := decide (wa x k = ((wa x (k + 1)).1, 0 - (wa x (k + 1)).2))
def lawR (w : Wd) (ps : List P2) : Bool := decide (dcount (plcI ps) = (plcI ps).length) && (decide (ps = isrt ps) && (ps.all (chk w ps) && decide (((List.range ((restP w ps).length - 1)).filter (adj (restP w ps))).length = 0)))
def Inb (w : Wd) (ps : List P2) : Prop := ∀ p ∈ ps, 0 ≤ p.1 ∧ p.1 < (w.length : Int) ∧ 0 ≤ p.2 ∧ p.2 < (w.length : Int)
abbrev P8 (w : Wd) (ps : List P2) (tk : List Int) (y3 y4 y5 y6 y7 : Sl) : Rho := [.im (wt w), .im (.tuple (ps.map pr)), .ow false (tk.map .int), y3, y4, y5, y6, y7]
theorem l_tk {w : Wd} {ps : List P2} : ∀ (l : List P2) (tk : List Int) (y3 : Sl), Fr y3 → tk.length + 2 * l.length ≤ 1000 → ∃ y3', Fr y3' ∧
    forL (nameT 3) (dropS (mutF xtD 2 (consD (callF listD (consF (varF 3) nilF)) nilD))) (l.map pr) (P8 w ps tk y3 .un .un .un .un) = .nx (P8 w ps (tk ++ plcI l) y3' .un .un .un .un)
  | [], tk, y3, h3, _ => ⟨y3, h3, by simp [plcI, forL]⟩
  | p :: l, tk, y3, h3, hz => by
    have nm : nameT 3 (pr p) (P8 w ps tk y3 .un .un .un .un) = some (P8 w ps tk (.im (pr p)) .un .un .un .un) := by rcases h3 with rfl | ⟨e, rfl⟩ <;> rfl
    have b : dropS (mutF xtD 2 (consD (callF listD (consF (varF 3) nilF)) nilD)) (P8 w ps tk (.im (pr p)) .un .un .un .un) = .nx (P8 w ps (tk ++ [p.1, p.2]) (.im (pr p)) .un .un .un .un) := by
      have sz : tk.length + 2 ≤ 16777216 := by omega
      simp [retS, seqS, asgS, clF, clI, clKF, isOw, consD, consF, callF, call1, drs, opF, op2, unF, op1, varF, cF, nilD, nilF, bd, bs, frz, dr, fin, dat, setN, pin_0, pin_s, np_im, np_un, np_ow, iteS, tstF, blO, nxS, dropS, mutF, mutO, thaw, tupF, lstF, tupD, lstD, andF, orF, notF, andV, orV, notV, ifF, tgS, tupU, consT, nameT, nilT, parS, slF, noO, parO, intO, slO, isnD, unS, out, retV, negD, subD, intD, unF, op1, truF, truO, tru, parN, consL, addL, nilL, parM, setL, slOf, nrm, two, ltD, gtD, leD, geD, P8, listD, pr, xtD, sizeLine_eq, sz]
    rw [List.length_cons] at hz
    obtain ⟨y, hy, e⟩ := l_tk (w := w) (ps := ps) l (tk ++ [p.1, p.2]) (.im (pr p)) fr_im (by rw [List.length_append]; simp; omega)
    refine ⟨y, hy, ?_⟩
    rw [List.map_cons, forL_cons nm, b]
    refine Eq.trans e ?_
    congr 2
    have e1 : plcI (p :: l) = plcI [p] ++ plcI l := plcI_app [p] l
    rw [e1, List.append_assoc]
    rfl
abbrev c_q : Rho → Ou Bool := andF (chnF (varF 4) (opF ixD (varF 3) (cF (.int 0))) (opF ixD (varF 3) (cF (.int 1))) (varF 5)) (tstF (opF inTD (varF 6) (varF 3)))
theorem t_cq {w : Wd} {ps : List P2} {tk : List Int} {p q : P2} {k : Int} : c_q (P8 w ps tk (.im (pr q)) (.im (.int p.1)) (.im (.int p.2)) (.im (.int k)) .un) = .ok (qf p k q) (P8 w ps tk (.im (pr q)) (.im (.int p.1)) (.im (.int p.2)) (.im (.int k)) .un) := by
  have x0 : ixD (pr q) (.int 0) = some (.im (.int q.1)) := ixD_0 _ _
  have x1 : ixD (pr q) (.int 1) = some (.im (.int q.2)) := ixD_1 _ _ _
  have it : inTD (.int k) (pr q) = some (.im (.bool (decide (k ∈ [q.1, q.2])))) := rfl
  unfold qf
  by_cases h1 : p.1 < q.1
  · by_cases h2 : q.1 < q.2
    · by_cases h3 : q.2 < p.2
      · simp [retS, seqS, asgS, clF, clI, clKF, isOw, consD, consF, callF, call1, drs, opF, op2, unF, op1, varF, cF, nilD, nilF, bd, bs, frz, dr, fin, dat, setN, pin_0, pin_s, np_im, np_un, np_ow, iteS, tstF, blO, nxS, dropS, mutF, mutO, thaw, tupF, lstF, tupD, lstD, andF, orF, notF, andV, orV, notV, ifF, tgS, tupU, consT, nameT, nilT, parS, slF, noO, parO, intO, slO, isnD, unS, out, retV, negD, subD, intD, unF, op1, truF, truO, tru, parN, consL, addL, nilL, parM, setL, slOf, nrm, two, ltD, gtD, leD, geD, P8, chnF, x0, x1, it, h1, h2, h3]
      · simp [retS, seqS, asgS, clF, clI, clKF, isOw, consD, consF, callF, call1, drs, opF, op2, unF, op1, varF, cF, nilD, nilF, bd, bs, frz, dr, fin, dat, setN, pin_0, pin_s, np_im, np_un, np_ow, iteS, tstF, blO, nxS, dropS, mutF, mutO, thaw, tupF, lstF, tupD, lstD, andF, orF, notF, andV, orV, notV, ifF, tgS, tupU, consT, nameT, nilT, parS, slF, noO, parO, intO, slO, isnD, unS, out, retV, negD, subD, intD, unF, op1, truF, truO, tru, parN, consL, addL, nilL, parM, setL, slOf, nrm, two, ltD, gtD, leD, geD, P8, chnF, x0, x1, h1, h2, h3]
    · simp [retS, seqS, asgS, clF, clI, clKF, isOw, consD, consF, callF, call1, drs, opF, op2, unF, op1, varF, cF, nilD, nilF, bd, bs, frz, dr, fin, dat, setN, pin_0, pin_s, np_im, np_un, np_ow, iteS, tstF, blO, nxS, dropS, mutF, mutO, thaw, tupF, lstF, tupD, lstD, andF, orF, notF, andV, orV, notV, ifF, tgS, tupU, consT, nameT, nilT, parS, slF, noO, parO, intO, slO, isnD, unS, out, retV, negD, subD, intD, unF, op1, truF, truO, tru, parN, consL, addL, nilL, parM, setL, slOf, nrm, two, ltD, gtD, leD, geD, P8, chnF, x0, x1, h1, h2]
  · simp [retS, seqS, asgS, clF, clI, clKF, isOw, consD, consF, callF, call1, drs, opF, op2, unF, op1, varF, cF, nilD, nilF, bd, bs, frz, dr, fin, dat, setN, pin_0, pin_s, np_im, np_un, np_ow, iteS, tstF, blO, nxS, dropS, mutF, mutO, thaw, tupF, lstF, tupD, lstD, andF, orF, notF, andV, orV, notV, ifF, tgS, tupU, consT, nameT, nilT, parS, slF, noO, parO, intO, slO, isnD, unS, out, retV, negD, subD, intD, unF, op1, truF, truO, tru, parN, consL, addL, nilL, parM, setL, slOf, nrm, two, ltD, gtD, leD, geD, P8, chnF, x0, x1, h1]
theorem cnt_lc {w : Wd} {ps : List P2} {tk : List Int} {p : P2} {k : Int} {y3 : Sl} (h3 : Fr y3) (hz : ps.length ≤ 500) : lcF (seqI (varF 1)) (nameT 3) c_q (varF 3) [3] (P8 w ps tk y3 (.im (.int p.1)) (.im (.int p.2)) (.im (.int k)) .un) = .ok (.fr ((ps.filter (qf p k)).map pr)) (P8 w ps tk y3 (.im (.int p.1)) (.im (.int p.2)) (.im (.int k)) .un) := by
  have I : seqI (varF 1) (P8 w ps tk y3 (.im (.int p.1)) (.im (.int p.2)) (.im (.int k)) .un) = .ok (ps.map pr) (P8 w ps tk y3 (.im (.int p.1)) (.im (.int p.2)) (.im (.int k)) .un) := rfl
  have pl' : plainAt (P8 w ps tk y3 (.im (.int p.1)) (.im (.int p.2)) (.im (.int k)) .un) [3] = true := by rcases h3 with rfl | ⟨z, rfl⟩ <;> rfl
  have ww : wipeR (P8 w ps tk y3 (.im (.int p.1)) (.im (.int p.2)) (.im (.int k)) .un) [3] = P8 w ps tk .un (.im (.int p.1)) (.im (.int p.2)) (.im (.int k)) .un := by rcases h3 with rfl | ⟨z, rfl⟩ <;> rfl
  have un' : unwipe (P8 w ps tk y3 (.im (.int p.1)) (.im (.int p.2)) (.im (.int k)) .un) (P8 w ps tk .un (.im (.int p.1)) (.im (.int p.2)) (.im (.int k)) .un) [3] = P8 w ps tk y3 (.im (.int p.1)) (.im (.int p.2)) (.im (.int k)) .un := by rcases h3 with rfl | ⟨z, rfl⟩ <;> rfl
  unfold lcF
  rw [I, bd_ok, if_pos pl', ww, lcL_fil (f := pr) (q := qf p k) ps [] (fun q hq => ⟨P8 w ps tk (.im (pr q)) (.im (.int p.1)) (.im (.int p.2)) (.im (.int k)) .un, rfl, t_cq, rfl, rfl, rfl⟩) (by simp [sizeLine_eq]; omega), bd_ok, un']
  rfl
end K01
end VL

namespace VL
open PySem PySem.Spec PyProof.Rows L2
open PySem.W (Datum Tup)

namespace K01
abbrev b_cn : Rho → So := iteS (tstF (opF neD (callF lenD (consF (lcF (seqI (varF 1)) (nameT 3) c_q (varF 3) [3]) nilF)) (cF (.int 1))))
  (retS (cF (.bool false)))
  nxS
abbrev b_co : Rho → So := forS (rng2I (consD (opF addD (varF 4) (cF (.int 1))) (consD (varF 5) nilD))) (nameT 6) b_cn
abbrev b_c1 : Rho → So := iteS (orF (tstF (opF geD (varF 4) (varF 5))) (orF (tstF (opF neD (opF ixD (opF ixD (varF 0) (varF 4)) (cF (.int 0))) (opF ixD (opF ixD (varF 0) (varF 5)) (cF (.int 0))))) (tstF (opF eqD (opF ixD (opF ixD (varF 0) (varF 4)) (cF (.int 1))) (opF ixD (opF ixD (varF 0) (varF 5)) (cF (.int 1)))))))
  (retS (cF (.bool false)))
  nxS
theorem ret_f (ρ : Rho) : retS (cF (.bool false)) ρ = .rt (.im (.bool false)) ρ := rfl
theorem nx_s (ρ : Rho) : nxS ρ = .nx ρ := rfl
theorem t_ck {w : Wd} {ps : List P2} {tk : List Int} {p : P2} (hz : ps.length ≤ 500) (hw : w.length ≤ 900) (hb : 0 ≤ p.1 ∧ p.1 < (w.length : Int) ∧ 0 ≤ p.2 ∧ p.2 < (w.length : Int)) {y3 y6 : Sl} (h3 : Fr y3) (h6 : Fr y6) :
    (chk w ps p = true ∧ ∃ y6', Fr y6' ∧ seqS b_c1 b_co (P8 w ps tk y3 (.im (.int p.1)) (.im (.int p.2)) y6 .un) = .nx (P8 w ps tk y3 (.im (.int p.1)) (.im (.int p.2)) y6' .un)) ∨
    (chk w ps p = false ∧ ∃ r, seqS b_c1 b_co (P8 w ps tk y3 (.im (.int p.1)) (.im (.int p.2)) y6 .un) = .rt (.im (.bool false)) r) := by
  have e1 : ixD (wt w) (.int p.1) = some (.im (pr (wa w p.1.toNat))) := by
    have := @ix_wt w p.1.toNat (by omega)
    rw [Int.toNat_of_nonneg hb.1] at this
    exact this
  have e2 : ixD (wt w) (.int p.2) = some (.im (pr (wa w p.2.toNat))) := by
    have := @ix_wt w p.2.toNat (by omega)
    rw [Int.toNat_of_nonneg hb.2.2.1] at this
    exact this
  unfold chk
  generalize wa w p.1.toNat = A at *
  generalize wa w p.2.toNat = B at *
  have a0 : ixD (pr A) (.int 0) = some (.im (.int A.1)) := ixD_0 _ _
  have a1 : ixD (pr A) (.int 1) = some (.im (.int A.2)) := ixD_1 _ _ _
  have b0 : ixD (pr B) (.int 0) = some (.im (.int B.1)) := ixD_0 _ _
  have b1 : ixD (pr B) (.int 1) = some (.im (.int B.2)) := ixD_1 _ _ _
  have n1 := neD_int A.1 B.1
  have n2 := eqD_int A.2 B.2
  have k1 : tstF (opF geD (varF 4) (varF 5)) (P8 w ps tk y3 (.im (.int p.1)) (.im (.int p.2)) y6 .un) = .ok (decide (p.2 ≤ p.1)) (P8 w ps tk y3 (.im (.int p.1)) (.im (.int p.2)) y6 .un) := rfl
  have k2 : tstF (opF neD (opF ixD (opF ixD (varF 0) (varF 4)) (cF (.int 0))) (opF ixD (opF ixD (varF 0) (varF 5)) (cF (.int 0)))) (P8 w ps tk y3 (.im (.int p.1)) (.im (.int p.2)) y6 .un) = .ok (!decide (A.1 = B.1)) (P8 w ps tk y3 (.im (.int p.1)) (.im (.int p.2)) y6 .un) := by simp [retS, seqS, asgS, clF, clI, clKF, isOw, consD, consF, callF, call1, drs, opF, op2, unF, op1, varF, cF, nilD, nilF, bd, bs, frz, dr, fin, dat, setN, pin_0, pin_s, np_im, np_un, np_ow, iteS, tstF, blO, nxS, dropS, mutF, mutO, thaw, tupF, lstF, tupD, lstD, andF, orF, notF, andV, orV, notV, ifF, tgS, tupU, consT, nameT, nilT, parS, slF, noO, parO, intO, slO, isnD, unS, out, retV, negD, subD, intD, unF, op1, truF, truO, tru, parN, consL, addL, nilL, parM, setL, slOf, nrm, two, ltD, gtD, leD, geD, P8, e1, e2, a0, b0, n1]
  have k3 : tstF (opF eqD (opF ixD (opF ixD (varF 0) (varF 4)) (cF (.int 1))) (opF ixD (opF ixD (varF 0) (varF 5)) (cF (.int 1)))) (P8 w ps tk y3 (.im (.int p.1)) (.im (.int p.2)) y6 .un) = .ok (decide (A.2 = B.2)) (P8 w ps tk y3 (.im (.int p.1)) (.im (.int p.2)) y6 .un) := by simp [retS, seqS, asgS, clF, clI, clKF, isOw, consD, consF, callF, call1, drs, opF, op2, unF, op1, varF, cF, nilD, nilF, bd, bs, frz, dr, fin, dat, setN, pin_0, pin_s, np_im, np_un, np_ow, iteS, tstF, blO, nxS, dropS, mutF, mutO, thaw, tupF, lstF, tupD, lstD, andF, orF, notF, andV, orV, notV, ifF, tgS, tupU, consT, nameT, nilT, parS, slF, noO, parO, intO, slO, isnD, unS, out, retV, negD, subD, intD, unF, op1, truF, truO, tru, parN, consL, addL, nilL, parM, setL, slOf, nrm, two, ltD, gtD, leD, geD, P8, e1, e2, a1, b1, n2]
  have C := or_ok k1 (or_ok k2 k3)
  by_cases hc : p.1 < p.2 ∧ und A B
  · have e : (decide (p.2 ≤ p.1) || (!decide (A.1 = B.1) || decide (A.2 = B.2))) = false := by
      obtain ⟨c1, c2, c3⟩ := hc
      rw [decide_eq_false (by omega), decide_eq_true c2, decide_eq_false c3]
      rfl
    rw [e] at C
    rw [decide_eq_true hc, Bool.true_and]
    have I : rng2I (consD (opF addD (varF 4) (cF (.int 1))) (consD (varF 5) nilD)) (P8 w ps tk y3 (.im (.int p.1)) (.im (.int p.2)) y6 .un) = .ok (rngD (p.1 + 1) p.2) (P8 w ps tk y3 (.im (.int p.1)) (.im (.int p.2)) y6 .un) := by
      have c : consD (opF addD (varF 4) (cF (.int 1))) (consD (varF 5) nilD) (P8 w ps tk y3 (.im (.int p.1)) (.im (.int p.2)) y6 .un) = .ok [.int (p.1 + 1), .int p.2] (P8 w ps tk y3 (.im (.int p.1)) (.im (.int p.2)) y6 .un) := by simp [retS, seqS, asgS, clF, clI, clKF, isOw, consD, consF, callF, call1, drs, opF, op2, unF, op1, varF, cF, nilD, nilF, bd, bs, frz, dr, fin, dat, setN, pin_0, pin_s, np_im, np_un, np_ow, iteS, tstF, blO, nxS, dropS, mutF, mutO, thaw, tupF, lstF, tupD, lstD, andF, orF, notF, andV, orV, notV, ifF, tgS, tupU, consT, nameT, nilT, parS, slF, noO, parO, intO, slO, isnD, unS, out, retV, negD, subD, intD, unF, op1, truF, truO, tru, parN, consL, addL, nilL, parM, setL, slOf, nrm, two, ltD, gtD, leD, geD, P8, addD]
      unfold rng2I
      rw [c, bd_ok]
      unfold rng2O
      dsimp only
      rw [if_pos (by omega)]
    rw [seq_nx ((ite_f C).trans (nx_s _))]
    have L := loop_all (T := nameT 6) (B := b_cn) (enc := fun t : Nat => PyData.int (p.1 + 1 + (t : Nat))) (q := fun t : Nat => decide ((ps.filter (qf p (p.1 + 1 + (t : Int)))).length = 1))
      (S := fun ρ => ∃ y, Fr y ∧ ρ = P8 w ps tk y3 (.im (.int p.1)) (.im (.int p.2)) y .un) (z := .im (.bool false)) (List.range (p.2 - (p.1 + 1)).toNat) (P8 w ps tk y3 (.im (.int p.1)) (.im (.int p.2)) y6 .un) ⟨y6, h6, rfl⟩ fun t ht ρ hs => by
        obtain ⟨y, hy, rfl⟩ := hs
        refine ⟨P8 w ps tk y3 (.im (.int p.1)) (.im (.int p.2)) (.im (.int (p.1 + 1 + (t : Nat)))) .un, by rcases hy with rfl | ⟨e, rfl⟩ <;> rfl, ?_⟩
        have cl := @cnt_lc w ps tk p (p.1 + 1 + (t : Int)) y3 h3 hz
        have nn := neD_int ((ps.filter (qf p (p.1 + 1 + (t : Int)))).length : Nat) 1
        have ll : lenD [.list ((ps.filter (qf p (p.1 + 1 + (t : Int)))).map pr)] = some (.im (.int ((ps.filter (qf p (p.1 + 1 + (t : Int)))).length : Nat))) := by simp [lenD]
        generalize (ps.filter (qf p (p.1 + 1 + (t : Int)))).map pr = F at *
        generalize (ps.filter (qf p (p.1 + 1 + (t : Int)))).length = N at *
        have C2 : tstF (opF neD (callF lenD (consF (lcF (seqI (varF 1)) (nameT 3) c_q (varF 3) [3]) nilF)) (cF (.int 1))) (P8 w ps tk y3 (.im (.int p.1)) (.im (.int p.2)) (.im (.int (p.1 + 1 + (t : Nat)))) .un) = .ok (!decide ((N : Int) = 1)) (P8 w ps tk y3 (.im (.int p.1)) (.im (.int p.2)) (.im (.int (p.1 + 1 + (t : Nat)))) .un) := by
          simp only [tstF, opF, callF, consF, cl, nilF, cF, bd, frz, call1, drs, dr, Option.map, ll, fin, op2, nn, blO]
        by_cases h : N = 1
        · have e : (!decide ((N : Int) = 1)) = false := by rw [decide_eq_true (by omega)]; rfl
          rw [e] at C2
          exact .inl ⟨decide_eq_true h, _, (ite_f C2).trans (nx_s _), _, fr_im, rfl⟩
        · have e : (!decide ((N : Int) = 1)) = true := by rw [decide_eq_false (by omega)]; rfl
          rw [e] at C2
          exact .inr ⟨decide_eq_false h, _, (ite_t C2).trans (ret_f _)⟩
    rcases L with ⟨k, ρ', e, y, hy, rfl⟩ | ⟨k, r, e⟩
    · exact .inl ⟨k, y, hy, (for_of I).trans e⟩
    · exact .inr ⟨k, r, (for_of I).trans e⟩
  · have e : (decide (p.2 ≤ p.1) || (!decide (A.1 = B.1) || decide (A.2 = B.2))) = true := by
      by_cases c1 : p.2 ≤ p.1
      · rw [decide_eq_true c1]; rfl
      · by_cases c2 : A.1 = B.1
        · by_cases c3 : A.2 = B.2
          · rw [decide_eq_true c3]; simp
          · exact absurd ⟨by omega, c2, c3⟩ hc
        · rw [decide_eq_false c2]; simp
    rw [e] at C
    refine .inr ⟨by rw [decide_eq_false hc, Bool.false_and], _, seq_rt ((ite_t C).trans (ret_f _))⟩
end K01
end VL

namespace VL
open PySem PySem.Spec PyProof.Rows L2
open PySem.W (Datum Tup)

namespace K01
theorem iOf_ints : ∀ l : List Int, iOf (l.map .int) = some l
  | [] => rfl
  | i :: l => by
    show iOf (.int i :: l.map .int) = _
    unfold iOf
    rw [iOf_ints l]
    rfl
theorem idx_rng (n : Nat) : idx 0 n = (List.range n).map fun k : Nat => PyData.int (k : Int) := by
  unfold idx
  rw [List.range_eq_range']
theorem ix_wl {x : Wd} {k : Nat} (h : k < x.length) : ixD (.list (x.map pr)) (.int (k : Nat)) = some (.im (pr (wa x k))) := by
  refine ixD_l ?_
  rw [List.getElem?_map]
  simp [wa, List.getD_eq_getElem?_getD, h]
abbrev Q8 (w : Wd) (ps : List P2) (tk : List Int) (y3 y4 y5 y6 : Sl) (x : Wd) : Rho := [.im (wt w), .im (.tuple (ps.map pr)), .ow false (tk.map .int), y3, y4, y5, y6, .ow false (x.map pr)]
theorem left_lc {w : Wd} {ps : List P2} {y3 y4 y5 y6 : Sl} (h6 : Fr y6) (hw : w.length ≤ 900) : lcF (rng1I (callF lenD (consF (varF 0) nilF))) (nameT 6) (tstF (opF (inDl true) (varF 6) (varF 2))) (opF ixD (varF 0) (varF 6)) [6] (P8 w ps (plcI ps) y3 y4 y5 y6 .un) = .ok (.fr ((restP w ps).map pr)) (P8 w ps (plcI ps) y3 y4 y5 y6 .un) := by
  have l : lenD [wt w] = some (.im (.int (w.length : Nat))) := by simp [lenD, wt]
  have I : rng1I (callF lenD (consF (varF 0) nilF)) (P8 w ps (plcI ps) y3 y4 y5 y6 .un) = .ok ((List.range w.length).map fun k : Nat => PyData.int (k : Int)) (P8 w ps (plcI ps) y3 y4 y5 y6 .un) := by
    rw [← idx_rng]
    refine rng1_of ?_ (by omega)
    simp [retS, seqS, asgS, clF, clI, clKF, isOw, consD, consF, callF, call1, drs, opF, op2, unF, op1, varF, cF, nilD, nilF, bd, bs, frz, dr, fin, dat, setN, pin_0, pin_s, np_im, np_un, np_ow, iteS, tstF, blO, nxS, dropS, mutF, mutO, thaw, tupF, lstF, tupD, lstD, andF, orF, notF, andV, orV, notV, ifF, tgS, tupU, consT, nameT, nilT, parS, slF, noO, parO, intO, slO, isnD, unS, out, retV, negD, subD, intD, unF, op1, truF, truO, tru, parN, consL, addL, nilL, parM, setL, slOf, nrm, two, ltD, gtD, leD, geD, P8, l]
  have pl' : plainAt (P8 w ps (plcI ps) y3 y4 y5 y6 .un) [6] = true := by rcases h6 with rfl | ⟨z, rfl⟩ <;> rfl
  have ww : wipeR (P8 w ps (plcI ps) y3 y4 y5 y6 .un) [6] = P8 w ps (plcI ps) y3 y4 y5 .un .un := by rcases h6 with rfl | ⟨z, rfl⟩ <;> rfl
  have un' : unwipe (P8 w ps (plcI ps) y3 y4 y5 y6 .un) (P8 w ps (plcI ps) y3 y4 y5 .un .un) [6] = P8 w ps (plcI ps) y3 y4 y5 y6 .un := by rcases h6 with rfl | ⟨z, rfl⟩ <;> rfl
  unfold lcF
  rw [I, bd_ok, if_pos pl', ww, lcL_fil (f := fun k => pr (wa w k)) (q := fun k : Nat => decide ((k : Int) ∉ plcI ps)) (List.range w.length) [] (fun k hk => ?_) (by simp [sizeLine_eq]; omega), bd_ok, un']
  · unfold restP
    rw [List.map_map]
    rfl
  · rw [List.mem_range] at hk
    have x := @ix_wt w k hk
    have n := notin_ints (k : Int) (plcI ps)
    generalize hP : (plcI ps).map PyData.int = P at *
    refine ⟨[.im (wt w), .im (.tuple (ps.map pr)), .ow false P, y3, y4, y5, .im (.int (k : Int)), .un], ?_, ?_, ?_, rfl, ?_⟩
    · show some [_, _, Sl.ow false ((plcI ps).map PyData.int), _, _, _, _, _] = _
      rw [hP]
    · generalize decide ((k : Int) ∉ plcI ps) = z at *
      simp [retS, seqS, asgS, clF, clI, clKF, isOw, consD, consF, callF, call1, drs, opF, op2, unF, op1, varF, cF, nilD, nilF, bd, bs, frz, dr, fin, dat, setN, pin_0, pin_s, np_im, np_un, np_ow, iteS, tstF, blO, nxS, dropS, mutF, mutO, thaw, tupF, lstF, tupD, lstD, andF, orF, notF, andV, orV, notV, ifF, tgS, tupU, consT, nameT, nilT, parS, slF, noO, parO, intO, slO, isnD, unS, out, retV, negD, subD, intD, unF, op1, truF, truO, tru, parN, consL, addL, nilL, parM, setL, slOf, nrm, two, ltD, gtD, leD, geD, n]
    · generalize pr (wa w k) = A at *
      simp [retS, seqS, asgS, clF, clI, clKF, isOw, consD, consF, callF, call1, drs, opF, op2, unF, op1, varF, cF, nilD, nilF, bd, bs, frz, dr, fin, dat, setN, pin_0, pin_s, np_im, np_un, np_ow, iteS, tstF, blO, nxS, dropS, mutF, mutO, thaw, tupF, lstF, tupD, lstD, andF, orF, notF, andV, orV, notV, ifF, tgS, tupU, consT, nameT, nilT, parS, slF, noO, parO, intO, slO, isnD, unS, out, retV, negD, subD, intD, unF, op1, truF, truO, tru, parN, consL, addL, nilL, parM, setL, slOf, nrm, two, ltD, gtD, leD, geD, x]
    · show [_, _, Sl.ow false P, _, _, _, _, _] = [_, _, Sl.ow false ((plcI ps).map PyData.int), _, _, _, _, _]
      rw [hP]
theorem adj_lc {w : Wd} {ps : List P2} {tk : List Int} {x : Wd} {y3 y4 y5 y6 : Sl} (h6 : Fr y6) (hx : x.length ≤ 900) : lcF (rng1I (opF subD (callF lenD (consF (varF 7) nilF)) (cF (.int 1)))) (nameT 6) (tstF (opF eqD (opF ixD (varF 7) (varF 6)) (tupF (consD (opF ixD (opF ixD (varF 7) (opF addD (varF 6) (cF (.int 1)))) (cF (.int 0))) (consD (opF subD (cF (.int 0)) (opF ixD (opF ixD (varF 7) (opF addD (varF 6) (cF (.int 1)))) (cF (.int 1)))) nilD))))) (varF 6) [6] (Q8 w ps tk y3 y4 y5 y6 x) =
    .ok (.fr (((List.range (x.length - 1)).filter (adj x)).map fun k : Nat => PyData.int (k : Int))) (Q8 w ps tk y3 y4 y5 y6 x) := by
  have I : rng1I (opF subD (callF lenD (consF (varF 7) nilF)) (cF (.int 1))) (Q8 w ps tk y3 y4 y5 y6 x) = .ok ((List.range (x.length - 1)).map fun k : Nat => PyData.int (k : Int)) (Q8 w ps tk y3 y4 y5 y6 x) := by
    have l : lenD [.list (x.map pr)] = some (.im (.int (x.length : Nat))) := by simp [lenD]
    have h0 : bd (frz (opF subD (callF lenD (consF (varF 7) nilF)) (cF (.int 1)) (Q8 w ps tk y3 y4 y5 y6 x))) dat = .ok (.int ((x.length : Int) - 1)) (Q8 w ps tk y3 y4 y5 y6 x) := by
      simp [retS, seqS, asgS, clF, clI, clKF, isOw, consD, consF, callF, call1, drs, opF, op2, unF, op1, varF, cF, nilD, nilF, bd, bs, frz, dr, fin, dat, setN, pin_0, pin_s, np_im, np_un, np_ow, iteS, tstF, blO, nxS, dropS, mutF, mutO, thaw, tupF, lstF, tupD, lstD, andF, orF, notF, andV, orV, notV, ifF, tgS, tupU, consT, nameT, nilT, parS, slF, noO, parO, intO, slO, isnD, unS, out, retV, negD, subD, intD, unF, op1, truF, truO, tru, parN, consL, addL, nilL, parM, setL, slOf, nrm, two, ltD, gtD, leD, geD, Q8, l]
    unfold rng1I
    rw [h0, bd_ok]
    unfold rng1O
    dsimp only
    rw [if_pos (by omega)]
    unfold rngD
    rw [show ((x.length : Int) - 1 - 0).toNat = x.length - 1 by omega]
    congr 1
    exact List.map_congr_left fun k _ => by rw [Int.zero_add]
  have pl' : plainAt (Q8 w ps tk y3 y4 y5 y6 x) [6] = true := by rcases h6 with rfl | ⟨z, rfl⟩ <;> rfl
  have ww : wipeR (Q8 w ps tk y3 y4 y5 y6 x) [6] = Q8 w ps tk y3 y4 y5 .un x := by rcases h6 with rfl | ⟨z, rfl⟩ <;> rfl
  have un' : unwipe (Q8 w ps tk y3 y4 y5 y6 x) (Q8 w ps tk y3 y4 y5 .un x) [6] = Q8 w ps tk y3 y4 y5 y6 x := by rcases h6 with rfl | ⟨z, rfl⟩ <;> rfl
  unfold lcF
  rw [I, bd_ok, if_pos pl', ww, lcL_fil (f := fun k : Nat => PyData.int (k : Int)) (q := adj x) (List.range (x.length - 1)) [] (fun k hk => ?_) (by simp [sizeLine_eq]; omega), bd_ok, un']
  · rfl
  · rw [List.mem_range] at hk
    have x0 := @ix_wl x k (by omega)
    have x1 := @ix_wl x (k + 1) (by omega)
    rw [show (((k + 1 : Nat)) : Int) = (k : Int) + 1 by omega] at x1
    have e := eqD_pr (wa x k) ((wa x (k + 1)).1, 0 - (wa x (k + 1)).2)
    have p0 : ixD (pr (wa x (k + 1))) (.int 0) = some (.im (.int (wa x (k + 1)).1)) := ixD_0 _ _
    have p1 : ixD (pr (wa x (k + 1))) (.int 1) = some (.im (.int (wa x (k + 1)).2)) := ixD_1 _ _ _
    have pe : pr ((wa x (k + 1)).1, 0 - (wa x (k + 1)).2) = .tuple [.int (wa x (k + 1)).1, .int (0 - (wa x (k + 1)).2)] := rfl
    rw [pe] at e
    refine ⟨Q8 w ps tk y3 y4 y5 (.im (.int (k : Int))) x, rfl, ?_, rfl, rfl, rfl⟩
    unfold adj
    generalize (decide (wa x k = ((wa x (k + 1)).1, 0 - (wa x (k + 1)).2))) = z at *
    generalize wa x k = A at *
    generalize wa x (k + 1) = B at *
    have e' : eqD (pr A) (.tuple [.int B.1, .int (-B.2)]) = some (.im (.bool z)) := by rw [← e]; simp
    simp [retS, seqS, asgS, clF, clI, clKF, isOw, consD, consF, callF, call1, drs, opF, op2, unF, op1, varF, cF, nilD, nilF, bd, bs, frz, dr, fin, dat, setN, pin_0, pin_s, np_im, np_un, np_ow, iteS, tstF, blO, nxS, dropS, mutF, mutO, thaw, tupF, lstF, tupD, lstD, andF, orF, notF, andV, orV, notV, ifF, tgS, tupU, consT, nameT, nilT, parS, slF, noO, parO, intO, slO, isnD, unS, out, retV, negD, subD, intD, unF, op1, truF, truO, tru, parN, consL, addL, nilL, parM, setL, slOf, nrm, two, ltD, gtD, leD, geD, Q8, addD, x0, x1, p0, p1, sizeLine_eq, e']
end K01
end VL

namespace VL
open PySem PySem.Spec PyProof.Rows L2
open PySem.W (Datum Tup)

namespace K01
theorem v_pairs_right {w : Wd} {ps : List P2} (hw : w.length ≤ 900) (hz : ps.length ≤ 31) (hb : Inb w ps) (ρ : Rho) : foE 2 m_law_pairs_right [wt w, .tuple (ps.map pr)] ρ = .ok (.im (.bool (lawR w ps))) ρ := by
  refine foE_of (n := 2) (k := 6) (G := G_law_pairs_right) (ds := [wt w, .tuple (ps.map pr)]) ?_ rfl ρ
  have z0 : asgS 2 (lstF nilD) [.im (wt w), .im (.tuple (ps.map pr)), .un, .un, .un, .un, .un, .un] = .nx (P8 w ps [] .un .un .un .un .un) := by simp [retS, seqS, asgS, clF, clI, clKF, isOw, consD, consF, callF, call1, drs, opF, op2, unF, op1, varF, cF, nilD, nilF, bd, bs, frz, dr, fin, dat, setN, pin_0, pin_s, np_im, np_un, np_ow, iteS, tstF, blO, nxS, dropS, mutF, mutO, thaw, tupF, lstF, tupD, lstD, andF, orF, notF, andV, orV, notV, ifF, tgS, tupU, consT, nameT, nilT, parS, slF, noO, parO, intO, slO, isnD, unS, out, retV, negD, subD, intD, unF, op1, truF, truO, tru, parN, consL, addL, nilL, parM, setL, slOf, nrm, two, ltD, gtD, leD, geD, pinned]
  have I1 : ∀ tk y3, seqI (varF 1) (P8 w ps tk y3 .un .un .un .un) = .ok (ps.map pr) (P8 w ps tk y3 .un .un .un .un) := fun tk y3 => rfl
  obtain ⟨y3, h3, e1⟩ := l_tk (w := w) (ps := ps) ps [] .un fr_un (by simp; omega)
  rw [List.nil_append] at e1
  have lp : (plcI ps).length = 2 * ps.length := by
    clear hb e1 I1 z0 hz
    induction ps with
    | nil => rfl
    | cons p r ih =>
      have : plcI (p :: r) = plcI [p] ++ plcI r := plcI_app [p] r
      rw [this, List.length_append, ih]
      simp [plcI]; omega
  unfold G_law_pairs_right
  show out (seqS _ (seqS (forS _ _ _) (seqS _ (seqS (forS (seqI (varF 1)) _ (seqS b_c1 b_co)) _))) [.im (wt w), .im (.tuple (ps.map pr)), .un, .un, .un, .un, .un, .un]) = _
  rw [seq_nx z0, seq_nx ((for_of (I1 [] .un)).trans e1)]
  have k1 : tstF (opF neD (unF lenSetD (varF 2)) (callF lenD (consF (varF 2) nilF))) (P8 w ps (plcI ps) y3 .un .un .un .un) = .ok (!decide (dcount (plcI ps) = (plcI ps).length)) (P8 w ps (plcI ps) y3 .un .un .un .un) := by
    have a : lenSetD (.list ((plcI ps).map .int)) = some (.im (.int (dcount (plcI ps) : Nat))) := by
      unfold lenSetD
      dsimp only
      rw [iOf_ints]
      dsimp only
      rw [if_pos (by omega)]
    have b : lenD [.list ((plcI ps).map .int)] = some (.im (.int ((plcI ps).length : Nat))) := by simp [lenD]
    have c := neD_int (dcount (plcI ps) : Nat) ((plcI ps).length : Nat)
    have d : (decide ((dcount (plcI ps) : Int) = ((plcI ps).length : Int))) = decide (dcount (plcI ps) = (plcI ps).length) := decide_eq_decide.mpr (by omega)
    rw [d] at c
    generalize decide (dcount (plcI ps) = (plcI ps).length) = z at *
    simp only [tstF, opF, unF, callF, consF, varF, nilF, List.getElem?_cons_succ, List.getElem?_cons_zero, bd, frz, op1, call1, drs, dr, Option.map, a, b, fin, op2, c, blO]
  have k2 : tstF (opF neD (callF listD (consF (varF 1) nilF)) (callF sortedD (consF (varF 1) nilF))) (P8 w ps (plcI ps) y3 .un .un .un .un) = .ok (!decide (ps = isrt ps)) (P8 w ps (plcI ps) y3 .un .un .un .un) := by
    have a : listD [.tuple (ps.map pr)] = some (.fr (ps.map pr)) := rfl
    have b := sorted_t ps
    have c : neD (.list (ps.map pr)) (.list ((isrt ps).map pr)) = some (.im (.bool (!decide (ps = isrt ps)))) := neD_wl ps (isrt ps)
    generalize decide (ps = isrt ps) = z at *
    simp only [tstF, opF, callF, consF, varF, nilF, List.getElem?_cons_succ, List.getElem?_cons_zero, bd, frz, call1, drs, dr, Option.map, a, b, fin, op2, c, blO]
  have C := or_ok k1 k2
  unfold lawR
  by_cases h1 : dcount (plcI ps) = (plcI ps).length ∧ ps = isrt ps
  · have e : (!decide (dcount (plcI ps) = (plcI ps).length) || !decide (ps = isrt ps)) = false := by rw [decide_eq_true h1.1, decide_eq_true h1.2]; rfl
    rw [e] at C
    rw [seq_nx ((ite_f C).trans (nx_s _)), decide_eq_true h1.1, decide_eq_true h1.2, Bool.true_and, Bool.true_and]
    have L := loop_all (T := tupU 2 (consT (nameT 4) (consT (nameT 5) nilT))) (B := seqS b_c1 b_co) (enc := pr) (q := chk w ps) (S := fun ρ => ∃ y4 y5 y6, Fr y4 ∧ Fr y5 ∧ Fr y6 ∧ ρ = P8 w ps (plcI ps) y3 y4 y5 y6 .un) (z := .im (.bool false)) ps (P8 w ps (plcI ps) y3 .un .un .un .un) ⟨_, _, _, fr_un, fr_un, fr_un, rfl⟩ fun p hp ρ hs => by
      obtain ⟨y4, y5, y6, f4, f5, f6, rfl⟩ := hs
      refine ⟨P8 w ps (plcI ps) y3 (.im (.int p.1)) (.im (.int p.2)) y6 .un, by rcases f4 with rfl | ⟨e, rfl⟩ <;> rcases f5 with rfl | ⟨e2, rfl⟩ <;> rfl, ?_⟩
      rcases t_ck (tk := plcI ps) (ps := ps) (by omega) hw (hb p hp) h3 f6 with ⟨k, y, fy, e⟩ | ⟨k, r, e⟩
      · exact .inl ⟨k, _, e, _, _, _, fr_im, fr_im, fy, rfl⟩
      · exact .inr ⟨k, r, e⟩
    rcases L with ⟨k, ρ', e, y4, y5, y6, f4, f5, f6, rfl⟩ | ⟨k, r, e⟩
    · rw [seq_nx ((for_of (I1 _ _)).trans e), k, Bool.true_and]
      have lc := left_lc (w := w) (ps := ps) (y3 := y3) (y4 := y4) (y5 := y5) f6 hw
      have z4 : asgS 7 (lcF (rng1I (callF lenD (consF (varF 0) nilF))) (nameT 6) (tstF (opF (inDl true) (varF 6) (varF 2))) (opF ixD (varF 0) (varF 6)) [6]) (P8 w ps (plcI ps) y3 y4 y5 y6 .un) = .nx (Q8 w ps (plcI ps) y3 y4 y5 y6 (restP w ps)) := by
        unfold asgS
        rw [lc]
        rfl
      rw [seq_nx z4]
      have rl : (restP w ps).length ≤ 900 := by
        unfold restP
        rw [List.length_map]
        exact Nat.le_trans (List.length_filter_le _ _) (by simpa using hw)
      have al := adj_lc (w := w) (ps := ps) (tk := plcI ps) (x := restP w ps) (y3 := y3) (y4 := y4) (y5 := y5) f6 rl
      generalize ((List.range ((restP w ps).length - 1)).filter (adj (restP w ps))) = F at *
      have b : lenD [.list (F.map fun k : Nat => PyData.int (k : Int))] = some (.im (.int (F.length : Nat))) := by simp [lenD]
      have c := eqD_int (F.length : Nat) 0
      have d : (decide ((F.length : Int) = 0)) = decide (F.length = 0) := decide_eq_decide.mpr (by omega)
      rw [d] at c
      generalize decide (F.length = 0) = z at *
      simp only [retS, opF, callF, consF, al, nilF, cF, bd, frz, call1, drs, dr, Option.map, b, fin, op2, c, bs, out, retV]
    · rw [seq_rt ((for_of (I1 _ _)).trans e), k]
      rfl
  · have e : (!decide (dcount (plcI ps) = (plcI ps).length) || !decide (ps = isrt ps)) = true := by
      by_cases a : dcount (plcI ps) = (plcI ps).length
      · have b : ¬ ps = isrt ps := fun z => h1 ⟨a, z⟩
        rw [decide_eq_false b]; simp
      · rw [decide_eq_false a]; rfl
    rw [e] at C
    rw [seq_rt ((ite_t C).trans (ret_f _))]
    have e2 : (decide (dcount (plcI ps) = (plcI ps).length) && (decide (ps = isrt ps) && (ps.all (chk w ps) && decide (((List.range ((restP w ps).length - 1)).filter (adj (restP w ps))).length = 0)))) = false := by
      by_cases a : dcount (plcI ps) = (plcI ps).length
      · have b : ¬ ps = isrt ps := fun z => h1 ⟨a, z⟩
        rw [decide_eq_false b]; simp
      · rw [decide_eq_false a]; rfl
    rw [e2]
    rfl
end K01
end VL

namespace VL
open PySem PySem.Spec PyProof.Rows L2
open PySem.W (Datum Tup)

namespace K01
theorem ded_len : ∀ (ns acc : List Int), (ns.foldl PyProof.Rows.step_dedup acc).length ≤ acc.length + ns.length ∧ ((ns.foldl PyProof.Rows.step_dedup acc).length = acc.length + ns.length → ns.Nodup ∧ ∀ x ∈ ns, x ∉ acc)
  | [], acc => ⟨Nat.le_refl _, fun _ => ⟨List.nodup_nil, fun _ z => nomatch z⟩⟩
  | n :: ns, acc => by
    rw [List.foldl_cons, List.length_cons]
    unfold PyProof.Rows.step_dedup
    split
    · have ih := (ded_len ns acc).1
      unfold PyProof.Rows.step_dedup at ih
      exact ⟨by omega, fun h => by omega⟩
    · rename_i c
      have ih := ded_len ns (acc ++ [n])
      unfold PyProof.Rows.step_dedup at ih
      rw [List.length_append, List.length_singleton] at ih
      refine ⟨by omega, fun h => ?_⟩
      obtain ⟨h1, h2⟩ := ih.2 (by omega)
      have na : n ∉ acc := fun z => c (List.any_eq_true.mpr ⟨n, z, by simp⟩)
      refine ⟨List.nodup_cons.mpr ⟨fun z => h2 n z (by simp), h1⟩, fun x hx => ?_⟩
      rcases List.mem_cons.mp hx with rfl | hx
      · exact na
      · exact fun z => h2 x hx (List.mem_append_left _ z)
theorem dcount_iff {ns : List Int} : dcount ns = ns.length ↔ ns.Nodup := by
  have e : (List.range ns.length).map (fun i => ns.getD i 0) = ns := by
    apply List.ext_getElem
    · simp
    · intro i h1 h2
      simp [List.getD_eq_getElem?_getD, h2]
  constructor
  · intro h
    unfold dcount PyProof.Rows.firstMet at h
    rw [e] at h
    exact ((ded_len ns []).2 (by simpa using h)).1
  · intro h
    unfold dcount
    rw [firstMet_nodup ns h ns.length (Nat.le_refl _), List.take_length]
theorem asc_sd : ∀ {l : List P2} {b : P2}, asc b l → Sd l ∧ ∀ p ∈ l, lt2 b p
  | [], _, _ => ⟨List.Pairwise.nil, fun _ z => nomatch z⟩
  | p :: r, b, h => by
    obtain ⟨s, t⟩ := asc_sd h.2
    refine ⟨List.pairwise_cons.mpr ⟨fun q hq => ?_, s⟩, fun q hq => ?_⟩
    · have := t q hq
      unfold lt2 at this
      rw [lePr_iff]
      omega
    · rcases List.mem_cons.mp hq with rfl | hq
      · exact h.1
      · have a := t q hq
        have b' := h.1
        unfold lt2 at a b' ⊢
        omega
theorem cnt_le {p : P2} {k : Int} : ∀ {ps : List P2}, (plcI ps).Nodup → (ps.filter (qf p k)).length ≤ 1
  | [], _ => by simp
  | q :: r, h => by
    have e : plcI (q :: r) = plcI [q] ++ plcI r := plcI_app [q] r
    rw [e] at h
    have h' := List.nodup_append.mp h
    cases c : qf p k q with
    | false =>
      rw [List.filter_cons_of_neg (by rw [c]; exact Bool.false_ne_true)]
      exact cnt_le h'.2.1
    | true =>
      rw [List.filter_cons_of_pos c]
      have : r.filter (qf p k) = [] := by
        refine List.filter_eq_nil_iff.mpr fun s hs z => ?_
        have z1 := of_decide_eq_true (p := p.1 < q.1 ∧ q.1 < q.2 ∧ q.2 < p.2 ∧ (k = q.1 ∨ k = q.2)) c
        have z2 := of_decide_eq_true (p := p.1 < s.1 ∧ s.1 < s.2 ∧ s.2 < p.2 ∧ (k = s.1 ∨ k = s.2)) z
        exact h'.2.2 k (by simp [plcI]; exact z1.2.2.2) k (plcI_in.mpr ⟨s, hs, z2.2.2.2⟩) rfl
      rw [this]
      exact Nat.le_refl _
theorem wa_app {y : Wd} {p : P2} {k : Nat} (h : k < y.length) : wa (y ++ [p]) k = wa y k := by
  unfold wa
  rw [List.getD_eq_getElem?_getD, List.getD_eq_getElem?_getD, List.getElem?_append_left h]
theorem wa_last {y : Wd} {p : P2} : wa (y ++ [p]) y.length = p := by
  unfold wa
  rw [List.getD_eq_getElem?_getD]
  simp
theorem red_iff : ∀ (n : Nat) (x : Wd), x.length = n → (Red x.reverse ↔ ∀ k, k + 1 < x.length → ¬ und (wa x k) (wa x (k + 1)))
  | 0, x, h => by
    rw [List.length_eq_zero_iff] at h
    subst h
    exact ⟨fun _ k hk => by simp at hk, fun _ => True.intro⟩
  | n + 1, x, h => by
    rcases nil_snoc x with rfl | ⟨y, p, rfl⟩
    · cases h
    · have hy : y.length = n := by simpa using h
      have ih := red_iff n y hy
      have er : (y ++ [p]).reverse = p :: y.reverse := by simp
      rw [er]
      rcases nil_snoc y with rfl | ⟨z, q, rfl⟩
      · exact ⟨fun _ k hk => by simp at hk, fun _ => True.intro⟩
      · have er2 : (z ++ [q]).reverse = q :: z.reverse := by simp
        rw [er2] at ih ⊢
        have lz : (z ++ [q]).length = z.length + 1 := by simp
        constructor
        · rintro ⟨h1, h2⟩ k hk
          rw [List.length_append, List.length_singleton] at hk
          by_cases c : k + 1 < (z ++ [q]).length
          · rw [wa_app (by omega), wa_app c]
            exact ih.mp h2 k c
          · have kz : k = z.length := by omega
            subst kz
            rw [wa_app (by omega), wa_last, show z.length + 1 = (z ++ [q]).length by omega, wa_last]
            exact h1
        · intro hh
          refine ⟨?_, ih.mpr fun k hk => ?_⟩
          · have := hh z.length (by rw [List.length_append, List.length_singleton]; omega)
            rw [wa_app (by omega), wa_last, show z.length + 1 = (z ++ [q]).length by omega, wa_last] at this
            exact this
          · have := hh k (by rw [List.length_append, List.length_singleton]; omega)
            rw [wa_app (by omega), wa_app hk] at this
            exact this
theorem adj_iff {x : Wd} (g : Sgn x) : ((List.range (x.length - 1)).filter (adj x)).length = 0 ↔ strike x = x := by
  have sg : ∀ k, k < x.length → (wa x k).2 = 1 ∨ (wa x k).2 = -1 := fun k hk => by
    have : wa x k = x[k] := by unfold wa; simp [List.getD_eq_getElem?_getD, hk]
    rw [this]
    exact g _ (List.getElem_mem hk)
  have a : ((List.range (x.length - 1)).filter (adj x)).length = 0 ↔ Red x.reverse := by
    rw [red_iff x.length x rfl, List.length_eq_zero_iff, List.filter_eq_nil_iff]
    have one : ∀ k, k + 1 < x.length → (adj x k = true ↔ und (wa x k) (wa x (k + 1))) := fun k hk => by
      unfold adj und
      rw [decide_eq_true_eq]
      have s1 := sg k (by omega)
      have s2 := sg (k + 1) hk
      constructor
      · intro e
        rw [e]
        exact ⟨rfl, by show 0 - (wa x (k + 1)).2 ≠ (wa x (k + 1)).2; omega⟩
      · rintro ⟨e1, e2⟩
        exact Prod.ext e1 (by show (wa x k).2 = 0 - (wa x (k + 1)).2; omega)
    constructor
    · intro h k hk z
      exact h k (by rw [List.mem_range]; omega) ((one k hk).mpr z)
    · intro h k hk z
      rw [List.mem_range] at hk
      exact h k (by omega) ((one k (by omega)).mp z)
  rw [a]
  constructor
  · exact red_strike
  · intro h
    have r := run_red x [] True.intro
    have e : x.foldl push [] = x.reverse := by
      unfold strike at h
      rw [← h, List.reverse_reverse, h]
    rw [e] at r
    exact r
theorem lawR_iff {w : Wd} {ps : List P2} (g : Sgn w) (hb : Inb w ps) : lawR w ps = true ↔ PP w ps := by
  have gr : Sgn (restP w ps) := fun p hp => by
    unfold restP at hp
    obtain ⟨k, hk, rfl⟩ := List.mem_map.mp hp
    have hkl := List.mem_range.mp (List.mem_filter.mp hk).1
    have : wa w k = w[k] := by unfold wa; simp [List.getD_eq_getElem?_getD, hkl]
    rw [this]
    exact g _ (List.getElem_mem hkl)
  unfold lawR
  rw [Bool.and_eq_true, Bool.and_eq_true, Bool.and_eq_true, decide_eq_true_eq, decide_eq_true_eq, decide_eq_true_eq, dcount_iff, adj_iff gr, List.all_eq_true]
  have ck : (plcI ps).Nodup → ∀ p ∈ ps, (chk w ps p = true ↔ (p.1 < p.2 ∧ und (wa w p.1.toNat) (wa w p.2.toNat)) ∧ ∀ k : Int, p.1 < k → k < p.2 → ∃ q ∈ ps, p.1 < q.1 ∧ q.1 < q.2 ∧ q.2 < p.2 ∧ (k = q.1 ∨ k = q.2)) := fun nd p hp => by
    unfold chk
    rw [Bool.and_eq_true, decide_eq_true_eq, List.all_eq_true]
    refine and_congr_right fun _ => ?_
    have one : ∀ k : Int, (ps.filter (qf p k)).length = 1 ↔ ∃ q ∈ ps, p.1 < q.1 ∧ q.1 < q.2 ∧ q.2 < p.2 ∧ (k = q.1 ∨ k = q.2) := fun k => by
      have le := cnt_le (p := p) (k := k) nd
      constructor
      · intro h
        obtain ⟨q, hq⟩ := List.exists_mem_of_length_pos (show 0 < (ps.filter (qf p k)).length by omega)
        have m := List.mem_filter.mp hq
        exact ⟨q, m.1, of_decide_eq_true (p := p.1 < q.1 ∧ q.1 < q.2 ∧ q.2 < p.2 ∧ (k = q.1 ∨ k = q.2)) m.2⟩
      · rintro ⟨q, hq, r⟩
        have : 0 < (ps.filter (qf p k)).length := List.length_pos_of_mem (List.mem_filter.mpr ⟨hq, decide_eq_true r⟩)
        omega
    constructor
    · intro h k k1 k2
      have t := h (k - (p.1 + 1)).toNat (by rw [List.mem_range]; omega)
      rw [decide_eq_true_eq, show p.1 + 1 + (((k - (p.1 + 1)).toNat : Nat) : Int) = k by omega] at t
      exact (one k).mp t
    · intro h t ht
      rw [List.mem_range] at ht
      rw [decide_eq_true_eq]
      exact (one _).mpr (h _ (by omega) (by omega))
  constructor
  · rintro ⟨nd, s, c, r⟩
    have ok : ∀ p ∈ ps, okP w p := fun p hp => by
      have b := hb p hp
      have z := ((ck nd p hp).mp (c p hp)).1
      exact ⟨b.1, z.1, b.2.2.2, z.2⟩
    refine ⟨asc_of (by rw [s]; exact isrt_sd _) (fun p hp => .inl (by have := (hb p hp).1; show (-1 : Int) < p.1; omega)) (nd_of nd), ok, nd, fun p hp k k1 k2 => ?_, r⟩
    obtain ⟨q, hq, q1, q2, q3, q4⟩ := ((ck nd p hp).mp (c p hp)).2 k k1 k2
    exact ⟨q, hq, q1, q3, q4⟩
  · intro P
    refine ⟨P.nd, sd_uniq (asc_sd P.asc).1 (isrt_sd _) (isrt_perm _).symm, fun p hp => (ck P.nd p hp).mpr ⟨⟨(P.ok p hp).2.1, (P.ok p hp).2.2.2⟩, fun k k1 k2 => ?_⟩, P.rest⟩
    obtain ⟨q, hq, q1, q3, q4⟩ := P.nest p hp k k1 k2
    exact ⟨q, hq, q1, (P.ok q hq).2.1, q3, q4⟩
theorem hold_lawR {w : Wd} {ps : List P2} (g : Sgn w) (hb : Inb w ps) : hold w ps = lawR w ps := by
  rw [Bool.eq_iff_iff, hold_iff, lawR_iff g hb]
end K01
end VL

namespace VL
open PySem PySem.Spec PyProof.Rows L2
open PySem.W (Datum Tup)

namespace K01
def lw (w : Wd) (l : List Nat) (k : Nat) : P2 := wa w (l.getD k 0)
def cnd (w : Wd) (l : List Nat) (k : Nat) : Bool := decide ((lw w l k).1 = (lw w l (k + 1)).1 ∧ (lw w l k).2 = 0 - (lw w l (k + 1)).2)
def fnd (w : Wd) (l : List Nat) : List Nat := (List.range (l.length - 1)).filter (cnd w l)
abbrev B9 (B : Sl) (w : Wd) (l : List Nat) (ps : List (Nat × Nat)) (y4 y5 y6 y7 y8 : Sl) : Rho := [B, .im (wt w), .ow false (nd l), .ow false (ps.map fun p => pr (tp p)), y4, y5, y6, y7, y8]
abbrev b_fd : Rho → So := seqS (parS 7 8 (opF ixD (varF 1) (opF ixD (varF 2) (varF 6))) (opF ixD (varF 1) (opF ixD (varF 2) (opF addD (varF 6) (cF (.int 1))))))
  (iteS (andF (tstF (opF eqD (opF ixD (varF 7) (cF (.int 0))) (opF ixD (varF 8) (cF (.int 0))))) (tstF (opF eqD (opF ixD (varF 7) (cF (.int 1))) (opF subD (cF (.int 0)) (opF ixD (varF 8) (cF (.int 1)))))))
  (dropS (mutF apD 5 (consD (varF 6) nilD)))
  nxS)
theorem ix_nd {l : List Nat} {k : Nat} (h : k < l.length) : ixD (.list (nd l)) (.int (k : Int)) = some (.im (.int (l.getD k 0 : Nat))) := by
  refine ixD_l ?_
  rw [List.getElem?_map, List.getD_eq_getElem?_getD, List.getElem?_eq_getElem h]
  rfl
theorem getD_in {l : List Nat} {k : Nat} (h : k < l.length) : l.getD k 0 ∈ l := by
  rw [List.getD_eq_getElem?_getD, List.getElem?_eq_getElem h]
  exact List.getElem_mem h
theorem t_fd {B : Sl} {w : Wd} {l : List Nat} {ps : List (Nat × Nat)} {y4 y7 y8 : Sl} {acc : List Nat} {k : Nat} (hk : k + 1 < l.length) (hl : ∀ x ∈ l, x < w.length) (ha : acc.length ≤ 1000) (h7 : Fr y7) (h8 : Fr y8) :
    b_fd (B9 B w l ps y4 (.ow false (nd acc)) (.im (.int (k : Int))) y7 y8) = .nx (B9 B w l ps y4 (.ow false (nd (if cnd w l k = true then acc ++ [k] else acc))) (.im (.int (k : Int))) (.im (pr (lw w l k))) (.im (pr (lw w l (k + 1))))) := by
  have x0 := @ix_nd l k (by omega)
  have x1 := @ix_nd l (k + 1) hk
  rw [show ((k + 1 : Nat) : Int) = (k : Int) + 1 by omega] at x1
  have w0 : ixD (wt w) (.int (l.getD k 0 : Nat)) = some (.im (pr (lw w l k))) := ix_wt (hl _ (getD_in (by omega)))
  have w1 : ixD (wt w) (.int (l.getD (k + 1) 0 : Nat)) = some (.im (pr (lw w l (k + 1)))) := ix_wt (hl _ (getD_in hk))
  have sz : acc.length < 16777216 := by omega
  have nda : nd (acc ++ [k]) = nd acc ++ [.int (k : Int)] := by simp [nd]
  have ndl : (nd acc).length = acc.length := by simp [nd]
  show b_fd [B, .im (wt w), .ow false (nd l), .ow false (ps.map fun p => pr (tp p)), y4, .ow false (nd acc), .im (.int (k : Int)), y7, y8] = .nx [B, .im (wt w), .ow false (nd l), .ow false (ps.map fun p => pr (tp p)), y4, .ow false (nd (if cnd w l k = true then acc ++ [k] else acc)), .im (.int (k : Int)), .im (pr (lw w l k)), .im (pr (lw w l (k + 1)))]
  unfold cnd
  generalize lw w l k = P at *
  generalize lw w l (k + 1) = Q at *
  generalize l.getD k 0 = i0 at *
  generalize l.getD (k + 1) 0 = i1 at *
  generalize hL : nd l = L at *
  generalize hA : nd acc = A at *
  generalize (ps.map fun p => pr (tp p)) = S at *
  have z0 : parS 7 8 (opF ixD (varF 1) (opF ixD (varF 2) (varF 6))) (opF ixD (varF 1) (opF ixD (varF 2) (opF addD (varF 6) (cF (.int 1))))) [B, .im (wt w), .ow false L, .ow false S, y4, .ow false A, .im (.int (k : Int)), y7, y8] = .nx [B, .im (wt w), .ow false L, .ow false S, y4, .ow false A, .im (.int (k : Int)), .im (pr P), .im (pr Q)] := by
    rcases h7 with rfl | ⟨e, rfl⟩ <;> rcases h8 with rfl | ⟨e2, rfl⟩ <;> simp [retS, seqS, asgS, clF, clI, clKF, isOw, consD, consF, callF, call1, drs, opF, op2, unF, op1, varF, cF, nilD, nilF, bd, bs, frz, dr, fin, dat, setN, pin_0, pin_s, np_im, np_un, np_ow, iteS, tstF, blO, nxS, dropS, mutF, mutO, thaw, tupF, lstF, tupD, lstD, andF, orF, notF, andV, orV, notV, ifF, tgS, tupU, consT, nameT, nilT, parS, slF, noO, parO, intO, slO, isnD, unS, out, retV, negD, subD, intD, unF, op1, truF, truO, tru, parN, consL, addL, nilL, parM, setL, slOf, nrm, two, ltD, gtD, leD, geD, addD, x0, x1, w0, w1, pinned]
  have p0 : ixD (pr P) (.int 0) = some (.im (.int P.1)) := ixD_0 _ _
  have p1 : ixD (pr P) (.int 1) = some (.im (.int P.2)) := ixD_1 _ _ _
  have q0 : ixD (pr Q) (.int 0) = some (.im (.int Q.1)) := ixD_0 _ _
  have q1 : ixD (pr Q) (.int 1) = some (.im (.int Q.2)) := ixD_1 _ _ _
  have e1 := eqD_int P.1 Q.1
  have e2 := eqD_int P.2 (0 - Q.2)
  have C : andF (tstF (opF eqD (opF ixD (varF 7) (cF (.int 0))) (opF ixD (varF 8) (cF (.int 0))))) (tstF (opF eqD (opF ixD (varF 7) (cF (.int 1))) (opF subD (cF (.int 0)) (opF ixD (varF 8) (cF (.int 1)))))) [B, .im (wt w), .ow false L, .ow false S, y4, .ow false A, .im (.int (k : Int)), .im (pr P), .im (pr Q)] = .ok (decide (P.1 = Q.1 ∧ P.2 = 0 - Q.2)) [B, .im (wt w), .ow false L, .ow false S, y4, .ow false A, .im (.int (k : Int)), .im (pr P), .im (pr Q)] := by
    have e2' : eqD (.int P.2) (.int (-Q.2)) = some (.im (.bool (decide (P.2 = 0 - Q.2)))) := by rw [← e2]; simp
    by_cases h : P.1 = Q.1
    · rw [decide_eq_true h] at e1
      have d : decide (P.1 = Q.1 ∧ P.2 = 0 - Q.2) = decide (P.2 = 0 - Q.2) := decide_eq_decide.mpr ⟨fun z => z.2, fun z => ⟨h, z⟩⟩
      rw [d]
      generalize decide (P.2 = 0 - Q.2) = z at *
      simp [retS, seqS, asgS, clF, clI, clKF, isOw, consD, consF, callF, call1, drs, opF, op2, unF, op1, varF, cF, nilD, nilF, bd, bs, frz, dr, fin, dat, setN, pin_0, pin_s, np_im, np_un, np_ow, iteS, tstF, blO, nxS, dropS, mutF, mutO, thaw, tupF, lstF, tupD, lstD, andF, orF, notF, andV, orV, notV, ifF, tgS, tupU, consT, nameT, nilT, parS, slF, noO, parO, intO, slO, isnD, unS, out, retV, negD, subD, intD, unF, op1, truF, truO, tru, parN, consL, addL, nilL, parM, setL, slOf, nrm, two, ltD, gtD, leD, geD, p0, p1, q0, q1, e1, e2']
    · rw [decide_eq_false h] at e1
      have d : decide (P.1 = Q.1 ∧ P.2 = 0 - Q.2) = false := decide_eq_false fun z => h z.1
      rw [d]
      simp [retS, seqS, asgS, clF, clI, clKF, isOw, consD, consF, callF, call1, drs, opF, op2, unF, op1, varF, cF, nilD, nilF, bd, bs, frz, dr, fin, dat, setN, pin_0, pin_s, np_im, np_un, np_ow, iteS, tstF, blO, nxS, dropS, mutF, mutO, thaw, tupF, lstF, tupD, lstD, andF, orF, notF, andV, orV, notV, ifF, tgS, tupU, consT, nameT, nilT, parS, slF, noO, parO, intO, slO, isnD, unS, out, retV, negD, subD, intD, unF, op1, truF, truO, tru, parN, consL, addL, nilL, parM, setL, slOf, nrm, two, ltD, gtD, leD, geD, p0, p1, q0, q1, e1]
  show seqS _ _ [B, .im (wt w), .ow false L, .ow false S, y4, .ow false A, .im (.int (k : Int)), y7, y8] = _
  rw [seq_nx z0]
  by_cases h : P.1 = Q.1 ∧ P.2 = 0 - Q.2
  · rw [decide_eq_true h] at C
    rw [decide_eq_true h, if_pos rfl, ite_t C, nda]
    simp [retS, seqS, asgS, clF, clI, clKF, isOw, consD, consF, callF, call1, drs, opF, op2, unF, op1, varF, cF, nilD, nilF, bd, bs, frz, dr, fin, dat, setN, pin_0, pin_s, np_im, np_un, np_ow, iteS, tstF, blO, nxS, dropS, mutF, mutO, thaw, tupF, lstF, tupD, lstD, andF, orF, notF, andV, orV, notV, ifF, tgS, tupU, consT, nameT, nilT, parS, slF, noO, parO, intO, slO, isnD, unS, out, retV, negD, subD, intD, unF, op1, truF, truO, tru, parN, consL, addL, nilL, parM, setL, slOf, nrm, two, ltD, gtD, leD, geD, apD, sizeLine_eq, ndl, sz]
  · rw [decide_eq_false h] at C
    rw [decide_eq_false h, if_neg Bool.false_ne_true, ite_f C, hA]
    rfl
theorem l_fd {B : Sl} {w : Wd} {l : List Nat} {ps : List (Nat × Nat)} {y4 : Sl} (hl : ∀ x ∈ l, x < w.length) (hz : l.length ≤ 100) : ∀ (k s : Nat) (acc : List Nat) (y6 y7 y8 : Sl), s + k + 1 ≤ l.length → acc.length + k ≤ 200 → Fr y6 → Fr y7 → Fr y8 →
    ∃ y6' y7' y8', Fr y6' ∧ Fr y7' ∧ Fr y8' ∧ forL (nameT 6) b_fd (idx s k) (B9 B w l ps y4 (.ow false (nd acc)) y6 y7 y8) = .nx (B9 B w l ps y4 (.ow false (nd (acc ++ (List.range' s k).filter (cnd w l)))) y6' y7' y8')
  | 0, s, acc, y6, y7, y8, _, _, h6, h7, h8 => ⟨y6, y7, y8, h6, h7, h8, by simp [idx, forL]⟩
  | k + 1, s, acc, y6, y7, y8, hs, ha, h6, h7, h8 => by
    have nm : nameT 6 (.int (s : Int)) (B9 B w l ps y4 (.ow false (nd acc)) y6 y7 y8) = some (B9 B w l ps y4 (.ow false (nd acc)) (.im (.int (s : Int))) y7 y8) := by rcases h6 with rfl | ⟨e, rfl⟩ <;> rfl
    have t := @t_fd B w l ps y4 y7 y8 acc s (by omega) hl (by omega) h7 h8
    obtain ⟨a, b, c, f1, f2, f3, e⟩ := l_fd hl hz (B := B) (ps := ps) (y4 := y4) k (s + 1) (if cnd w l s = true then acc ++ [s] else acc) (.im (.int (s : Int))) (.im (pr (lw w l s))) (.im (pr (lw w l (s + 1)))) (by omega) (by
      split
      · rw [List.length_append, List.length_singleton]; omega
      · omega) fr_im fr_im fr_im
    refine ⟨a, b, c, f1, f2, f3, ?_⟩
    rw [idx_succ, forL_cons nm, t]
    refine Eq.trans e ?_
    rw [List.range'_succ]
    cases hc : cnd w l s with
    | true => rw [if_pos rfl, List.filter_cons_of_pos hc]; simp
    | false => rw [if_neg Bool.false_ne_true, List.filter_cons_of_neg (by rw [hc]; exact Bool.false_ne_true)]
end K01
end VL

namespace VL
open PySem PySem.Spec PyProof.Rows L2
open PySem.W (Datum Tup)

namespace K01
abbrev b_tn : Rho → So := seqS (asgS 5 (lstF nilD))
  (seqS (forS (rng1I (opF subD (callF lenD (consF (varF 2) nilF)) (cF (.int 1)))) (nameT 6) b_fd)
  (iteS (tstF (opF gtD (callF lenD (consF (varF 5) nilF)) (cF (.int 0))))
  (seqS (asgS 6 (clI 2 m_law_pick 0 (consD (varF 5) nilD)))
  (seqS (dropS (mutF apD 3 (consD (tupF (consD (opF ixD (varF 2) (varF 6)) (consD (opF ixD (varF 2) (opF addD (varF 6) (cF (.int 1)))) nilD))) nilD)))
  (asgS 2 (opF addD (slF (varF 2) noO (parO (varF 6))) (slF (varF 2) (parO (opF addD (varF 6) (cF (.int 2)))) noO)))))
  nxS))
theorem split_at {l : List Nat} {a : Nat} (h : a + 1 < l.length) : l = l.take a ++ l.getD a 0 :: l.getD (a + 1) 0 :: l.drop (a + 2) := by
  have e1 : l.drop a = l.getD a 0 :: l.drop (a + 1) := by
    rw [List.drop_eq_getElem_cons (by omega)]
    simp [List.getD_eq_getElem?_getD, show a < l.length by omega]
  have e2 : l.drop (a + 1) = l.getD (a + 1) 0 :: l.drop (a + 2) := by
    rw [List.drop_eq_getElem_cons h]
    simp [List.getD_eq_getElem?_getD, h]
  rw [← e2, ← e1, List.take_append_drop]
theorem fnd_red {w : Wd} {l : List Nat} (g : ∀ k, k < l.length → (lw w l k).2 = 1 ∨ (lw w l k).2 = -1) (h : fnd w l = []) : Red (l.map (wa w)).reverse := by
  rw [red_iff (l.map (wa w)).length _ rfl]
  intro k hk u
  rw [List.length_map] at hk
  have e : ∀ j, j < l.length → wa (l.map (wa w)) j = lw w l j := fun j hj => by
    unfold lw wa
    simp [List.getD_eq_getElem?_getD, hj]
  rw [e k (by omega), e (k + 1) hk] at u
  have s1 := g k (by omega)
  have s2 := g (k + 1) hk
  have := List.filter_eq_nil_iff.mp h k (by rw [List.mem_range]; omega)
  exact this (decide_eq_true ⟨u.1, by have := u.2; omega⟩)
theorem t_tn {w : Wd} {l : List Nat} {ps : List (Nat × Nat)} {n : Nat} {c : Int × Int × Int} (h : Bx n c) (hn : n + 2 < 999) (hw : Sgn w) (hwz : w.length ≤ 100) (hr : Rd w l ps) {y4 y5 y6 y7 y8 : Sl} (n5 : np y5 = false) (h6 : Fr y6) (h7 : Fr y7) (h8 : Fr y8) :
    ∃ l' ps' c' y5' y6' y7' y8', Rd w l' ps' ∧ Bx (n + 1) c' ∧ np y5' = false ∧ Fr y6' ∧ Fr y7' ∧ Fr y8' ∧ ((l' = l ∧ Red (l.map (wa w)).reverse) ∨ l'.length + 2 = l.length) ∧
    b_tn (B9 (.ow true (bx c)) w l ps y4 y5 y6 y7 y8) = .nx (B9 (.ow true (bx c')) w l' ps' y4 y5' y6' y7' y8') := by
  have F := hr.fit hw
  have hl : ∀ x ∈ l, x < w.length := fun x hx => List.mem_range.mp (F.perm.mem_iff.mp (List.mem_append_left _ hx))
  have hlen := F.perm.length_eq
  rw [List.length_append, List.length_range] at hlen
  have hpl : (plc ps).length = 2 * ps.length := by
    clear hlen F hr
    induction ps with
    | nil => rfl
    | cons p r ih =>
      have : plc (p :: r) = plc [p] ++ plc r := plc_app [p] r
      rw [this, List.length_append, ih]
      simp [plc]; omega
  have z0 : asgS 5 (lstF nilD) (B9 (.ow true (bx c)) w l ps y4 y5 y6 y7 y8) = .nx (B9 (.ow true (bx c)) w l ps y4 (.ow false (nd [])) y6 y7 y8) := by
    simp [retS, seqS, asgS, clF, clI, clKF, isOw, consD, consF, callF, call1, drs, opF, op2, unF, op1, varF, cF, nilD, nilF, bd, bs, frz, dr, fin, dat, setN, pin_0, pin_s, np_im, np_un, np_ow, iteS, tstF, blO, nxS, dropS, mutF, mutO, thaw, tupF, lstF, tupD, lstD, andF, orF, notF, andV, orV, notV, ifF, tgS, tupU, consT, nameT, nilT, parS, slF, noO, parO, intO, slO, isnD, unS, out, retV, negD, subD, intD, unF, op1, truF, truO, tru, parN, consL, addL, nilL, parM, setL, slOf, nrm, two, ltD, gtD, leD, geD, B9, n5]
  have I : rng1I (opF subD (callF lenD (consF (varF 2) nilF)) (cF (.int 1))) (B9 (.ow true (bx c)) w l ps y4 (.ow false (nd [])) y6 y7 y8) = .ok (idx 0 (l.length - 1)) (B9 (.ow true (bx c)) w l ps y4 (.ow false (nd [])) y6 y7 y8) := by
    have ll : lenD [.list (nd l)] = some (.im (.int (l.length : Nat))) := by simp [lenD]
    have h0 : bd (frz (opF subD (callF lenD (consF (varF 2) nilF)) (cF (.int 1)) (B9 (.ow true (bx c)) w l ps y4 (.ow false (nd [])) y6 y7 y8))) dat = .ok (.int ((l.length : Int) - 1)) (B9 (.ow true (bx c)) w l ps y4 (.ow false (nd [])) y6 y7 y8) := by
      simp only [opF, callF, consF, varF, nilF, cF, List.getElem?_cons_succ, List.getElem?_cons_zero, bd, frz, call1, drs, dr, Option.map, ll, fin, op2, subD, intD, if_true, dat]
    unfold rng1I
    rw [h0, bd_ok]
    unfold rng1O
    dsimp only
    rw [if_pos (by omega)]
    unfold rngD
    rw [show ((l.length : Int) - 1 - 0).toNat = l.length - 1 by omega, idx_rng]
    congr 1
    exact List.map_congr_left fun k _ => by rw [Int.zero_add]
  obtain ⟨y6', y7', y8', f6, f7, f8, e⟩ : ∃ y6' y7' y8', Fr y6' ∧ Fr y7' ∧ Fr y8' ∧ forL (nameT 6) b_fd (idx 0 (l.length - 1)) (B9 (.ow true (bx c)) w l ps y4 (.ow false (nd [])) y6 y7 y8) = .nx (B9 (.ow true (bx c)) w l ps y4 (.ow false (nd (fnd w l))) y6' y7' y8') := by
    by_cases hl0 : l.length = 0
    · have : fnd w l = [] := by unfold fnd; rw [hl0]; rfl
      rw [this, hl0]
      exact ⟨y6, y7, y8, h6, h7, h8, rfl⟩
    · obtain ⟨a, b, d, f1, f2, f3, e⟩ := l_fd (B := .ow true (bx c)) (ps := ps) (y4 := y4) hl (by omega) (l.length - 1) 0 [] y6 y7 y8 (by omega) (by simp; omega) h6 h7 h8
      refine ⟨a, b, d, f1, f2, f3, ?_⟩
      rw [List.nil_append] at e
      unfold fnd
      rw [List.range_eq_range']
      exact e
  have fl : (fnd w l).length ≤ 100 := by
    unfold fnd
    exact Nat.le_trans (List.length_filter_le _ _) (by simp; omega)
  have fb : ∀ a ∈ fnd w l, a + 1 < l.length ∧ cnd w l a = true := fun a ha => by
    have m := List.mem_filter.mp ha
    have := List.mem_range.mp m.1
    exact ⟨by omega, m.2⟩
  have sgn : ∀ k, k < l.length → (lw w l k).2 = 1 ∨ (lw w l k).2 = -1 := fun k hk => by
    have hb := hl _ (getD_in hk)
    have : lw w l k = w[l.getD k 0] := by unfold lw wa; rw [List.getD_eq_getElem?_getD, List.getElem?_eq_getElem hb]; rfl
    rw [this]
    exact hw _ (List.getElem_mem hb)
  have ll : lenD [.list (nd (fnd w l))] = some (.im (.int ((fnd w l).length : Nat))) := by simp [lenD]
  have C : tstF (opF gtD (callF lenD (consF (varF 5) nilF)) (cF (.int 0))) (B9 (.ow true (bx c)) w l ps y4 (.ow false (nd (fnd w l))) y6' y7' y8') = .ok (decide ((0 : Int) < ((fnd w l).length : Nat))) (B9 (.ow true (bx c)) w l ps y4 (.ow false (nd (fnd w l))) y6' y7' y8') := by
    simp only [tstF, opF, callF, consF, varF, nilF, cF, List.getElem?_cons_succ, List.getElem?_cons_zero, bd, frz, call1, drs, dr, Option.map, ll, fin, op2, gtD, intD, if_true, blO]
  unfold b_tn
  rw [seq_nx z0, seq_nx ((for_of I).trans e)]
  by_cases hf : fnd w l = []
  · rw [hf] at C ⊢
    refine ⟨l, ps, c, .ow false (nd []), y6', y7', y8', hr, h.mono (by omega), rfl, f6, f7, f8, .inl ⟨rfl, fnd_red sgn hf⟩, ?_⟩
    exact (ite_f C).trans (nx_s _)
  · have hp : 0 < (fnd w l).length := List.length_pos_iff.mpr hf
    rw [decide_eq_true (by omega)] at C
    rw [ite_t C]
    obtain ⟨d, c', hd, b1, e1⟩ := v_pick h (by omega) (es := nd (fnd w l)) (by simpa using hp) (by simp; omega)
    obtain ⟨a, ha, rfl⟩ := List.mem_map.mp hd
    obtain ⟨a1, a2⟩ := fb a ha
    have a3 := of_decide_eq_true (p := (lw w l a).1 = (lw w l (a + 1)).1 ∧ (lw w l a).2 = 0 - (lw w l (a + 1)).2) a2
    have sa := sgn (a + 1) a1
    have e2 := e1 (B9 (.ow true (bx c)) w l ps y4 (.im (.list (nd (fnd w l)))) y6' y7' y8') 0 true rfl
    have hr2 : Rd w (l.take a ++ l.drop (a + 2)) (ps ++ [(l.getD a 0, l.getD (a + 1) 0)]) := by
      refine .step (a := l.getD a 0) (b := l.getD (a + 1) 0) ?_ ?_
      · rw [← split_at a1]; exact hr
      · refine ⟨a3.1, ?_⟩
        show (lw w l a).2 ≠ (lw w l (a + 1)).2
        have := a3.2
        omega
    refine ⟨l.take a ++ l.drop (a + 2), ps ++ [(l.getD a 0, l.getD (a + 1) 0)], c', .im (.list (nd (fnd w l))), .im (.int (a : Int)), y7', y8', hr2, b1, rfl, fr_im, f7, f8, .inr ?_, ?_⟩
    · rw [List.length_append, List.length_take, List.length_drop]
      omega
    · have z1 : asgS 6 (clI 2 m_law_pick 0 (consD (varF 5) nilD)) (B9 (.ow true (bx c)) w l ps y4 (.ow false (nd (fnd w l))) y6' y7' y8') = .nx (B9 (.ow true (bx c')) w l ps y4 (.im (.list (nd (fnd w l)))) (.im (.int (a : Int))) y7' y8') := by
        have g : clI 2 m_law_pick 0 (consD (varF 5) nilD) (B9 (.ow true (bx c)) w l ps y4 (.ow false (nd (fnd w l))) y6' y7' y8') = .ok (.im (.int (a : Int))) (B9 (.ow true (bx c')) w l ps y4 (.im (.list (nd (fnd w l)))) y6' y7' y8') := e2
        unfold asgS
        rw [g]
        rcases f6 with rfl | ⟨e, rfl⟩ <;> rfl
      have x0 := @ix_nd l a (by omega)
      have x1 := @ix_nd l (a + 1) a1
      rw [show ((a + 1 : Nat) : Int) = (a : Int) + 1 by omega] at x1
      have pz : ps.length < 16777216 := by omega
      have z2 : dropS (mutF apD 3 (consD (tupF (consD (opF ixD (varF 2) (varF 6)) (consD (opF ixD (varF 2) (opF addD (varF 6) (cF (.int 1)))) nilD))) nilD)) (B9 (.ow true (bx c')) w l ps y4 (.im (.list (nd (fnd w l)))) (.im (.int (a : Int))) y7' y8') = .nx (B9 (.ow true (bx c')) w l (ps ++ [(l.getD a 0, l.getD (a + 1) 0)]) y4 (.im (.list (nd (fnd w l)))) (.im (.int (a : Int))) y7' y8') := by
        have em : ((ps ++ [(l.getD a 0, l.getD (a + 1) 0)]).map fun p => pr (tp p)) = (ps.map fun p => pr (tp p)) ++ [.tuple [.int (l.getD a 0 : Nat), .int (l.getD (a + 1) 0 : Nat)]] := by rw [List.map_append]; rfl
        show dropS _ [.ow true (bx c'), .im (wt w), .ow false (nd l), .ow false (ps.map fun p => pr (tp p)), y4, .im (.list (nd (fnd w l))), .im (.int (a : Int)), y7', y8'] = .nx [.ow true (bx c'), .im (wt w), .ow false (nd l), .ow false ((ps ++ [(l.getD a 0, l.getD (a + 1) 0)]).map fun p => pr (tp p)), y4, .im (.list (nd (fnd w l))), .im (.int (a : Int)), y7', y8']
        rw [em]
        have sl : (ps.map fun p => pr (tp p)).length = ps.length := List.length_map _
        generalize (ps.map fun p => pr (tp p)) = S at *
        generalize nd l = L at *
        generalize l.getD a 0 = i0 at *
        generalize l.getD (a + 1) 0 = i1 at *
        have pz' : S.length < 16777216 := by omega
        simp [retS, seqS, asgS, clF, clI, clKF, isOw, consD, consF, callF, call1, drs, opF, op2, unF, op1, varF, cF, nilD, nilF, bd, bs, frz, dr, fin, dat, setN, pin_0, pin_s, np_im, np_un, np_ow, iteS, tstF, blO, nxS, dropS, mutF, mutO, thaw, tupF, lstF, tupD, lstD, andF, orF, notF, andV, orV, notV, ifF, tgS, tupU, consT, nameT, nilT, parS, slF, noO, parO, intO, slO, isnD, unS, out, retV, negD, subD, intD, unF, op1, truF, truO, tru, parN, consL, addL, nilL, parM, setL, slOf, nrm, two, ltD, gtD, leD, geD, addD, x0, x1, sizeLine_eq, apD, pz']
      have z3 : asgS 2 (opF addD (slF (varF 2) noO (parO (varF 6))) (slF (varF 2) (parO (opF addD (varF 6) (cF (.int 2)))) noO)) (B9 (.ow true (bx c')) w l (ps ++ [(l.getD a 0, l.getD (a + 1) 0)]) y4 (.im (.list (nd (fnd w l)))) (.im (.int (a : Int))) y7' y8') = .nx (B9 (.ow true (bx c')) w (l.take a ++ l.drop (a + 2)) (ps ++ [(l.getD a 0, l.getD (a + 1) 0)]) y4 (.im (.list (nd (fnd w l)))) (.im (.int (a : Int))) y7' y8') := by
        have s1 : slD (.list (nd l)) none (some (a : Int)) = some (.fr (nd (l.take a))) := by
          have e : cutD (nd l) none (some (a : Int)) = (nd l).take a := cut_to (by simp; omega)
          simp only [slD, e, ← List.map_take]
        have s2 : slD (.list (nd l)) (some ((a : Int) + 2)) none = some (.fr (nd (l.drop (a + 2)))) := by
          have e : cutD (nd l) (some ((a + 2 : Nat) : Int)) none = (nd l).drop (a + 2) := cut_from (by simp; omega)
          rw [show ((a + 2 : Nat) : Int) = (a : Int) + 2 by omega] at e
          simp only [slD, e, ← List.map_drop]
        have ad : addD (.list (nd (l.take a))) (.list (nd (l.drop (a + 2)))) = some (.fr (nd (l.take a ++ l.drop (a + 2)))) := by
          have hz : (nd (l.take a)).length + (nd (l.drop (a + 2))).length ≤ sizeLine := by rw [sizeLine_eq]; simp; omega
          simp only [addD, hz, if_true, nd, List.map_append]
        show asgS 2 _ [.ow true (bx c'), .im (wt w), .ow false (nd l), .ow false ((ps ++ [(l.getD a 0, l.getD (a + 1) 0)]).map fun p => pr (tp p)), y4, .im (.list (nd (fnd w l))), .im (.int (a : Int)), y7', y8'] = .nx [.ow true (bx c'), .im (wt w), .ow false (nd (l.take a ++ l.drop (a + 2))), .ow false ((ps ++ [(l.getD a 0, l.getD (a + 1) 0)]).map fun p => pr (tp p)), y4, .im (.list (nd (fnd w l))), .im (.int (a : Int)), y7', y8']
        generalize ((ps ++ [(l.getD a 0, l.getD (a + 1) 0)]).map fun p => pr (tp p)) = S at *
        generalize nd (l.take a ++ l.drop (a + 2)) = R at *
        generalize nd (l.take a) = R1 at *
        generalize nd (l.drop (a + 2)) = R2 at *
        generalize nd l = L at *
        have ad2 : addD (.int (a : Int)) (.int 2) = some (.im (.int ((a : Int) + 2))) := by simp [addD]
        simp [retS, seqS, asgS, clF, clI, clKF, isOw, consD, consF, callF, call1, drs, opF, op2, unF, op1, varF, cF, nilD, nilF, bd, bs, frz, dr, fin, dat, setN, pin_0, pin_s, np_im, np_un, np_ow, iteS, tstF, blO, nxS, dropS, mutF, mutO, thaw, tupF, lstF, tupD, lstD, andF, orF, notF, andV, orV, notV, ifF, tgS, tupU, consT, nameT, nilT, parS, slF, noO, parO, intO, slO, isnD, unS, out, retV, negD, subD, intD, unF, op1, truF, truO, tru, parN, consL, addL, nilL, parM, setL, slOf, nrm, two, ltD, gtD, leD, geD, s1, s2, ad, ad2, pinned]
      rw [seq_nx z1, seq_nx z2]
      exact z3
end K01
end VL

namespace VL
open PySem PySem.Spec PyProof.Rows L2
open PySem.W (Datum Tup)

namespace K01
theorem strike_len (x : Wd) : (strike x).length ≤ x.length := by
  have := run_len x []
  unfold strike
  rw [List.length_reverse]
  simpa using this
theorem no_less {w : Wd} (g : Sgn w) {l l' : List Nat} {ps ps' : List (Nat × Nat)} (h : Rd w l ps) (k : Rd w l' ps') (r : Red (l.map (wa w)).reverse) : l.length ≤ l'.length := by
  have e1 := strike_eqv (h.fit g).eqv
  have e2 := strike_eqv (k.fit g).eqv
  have e3 := red_strike r
  have := strike_len (l'.map (wa w))
  rw [e2, ← e1, e3, List.length_map, List.length_map] at this
  exact this
theorem l_tn {w : Wd} (hw : Sgn w) (hwz : w.length ≤ 100) : ∀ (k s n : Nat) (c : Int × Int × Int) (l : List Nat) (ps : List (Nat × Nat)) (y4 y5 y6 y7 y8 : Sl), Bx n c → n + k + 3 < 999 → Rd w l ps → Fr y4 → np y5 = false → Fr y6 → Fr y7 → Fr y8 →
    ∃ l' ps' c' y4' y5' y6' y7' y8', Rd w l' ps' ∧ Bx (n + k) c' ∧ Fr y4' ∧ np y5' = false ∧ Fr y6' ∧ Fr y7' ∧ Fr y8' ∧ (Red (l'.map (wa w)).reverse ∨ l'.length + 2 * k ≤ l.length) ∧
      forL (nameT 4) b_tn (idx s k) (B9 (.ow true (bx c)) w l ps y4 y5 y6 y7 y8) = .nx (B9 (.ow true (bx c')) w l' ps' y4' y5' y6' y7' y8')
  | 0, s, n, c, l, ps, y4, y5, y6, y7, y8, h, hn, hr, h4, n5, h6, h7, h8 => ⟨l, ps, c, y4, y5, y6, y7, y8, hr, h, h4, n5, h6, h7, h8, .inr (by omega), rfl⟩
  | k + 1, s, n, c, l, ps, y4, y5, y6, y7, y8, h, hn, hr, h4, n5, h6, h7, h8 => by
    have nm : nameT 4 (.int (s : Int)) (B9 (.ow true (bx c)) w l ps y4 y5 y6 y7 y8) = some (B9 (.ow true (bx c)) w l ps (.im (.int (s : Int))) y5 y6 y7 y8) := by rcases h4 with rfl | ⟨e, rfl⟩ <;> rfl
    obtain ⟨l1, ps1, c1, z5, z6, z7, z8, r1, b1, m5, f6, f7, f8, sh, e1⟩ := t_tn h (by omega) hw hwz hr (y4 := .im (.int (s : Int))) n5 h6 h7 h8
    obtain ⟨l2, ps2, c2, x4, x5, x6, x7, x8, r2, b2, g4, m5', g6, g7, g8, sh2, e2⟩ := l_tn hw hwz k (s + 1) (n + 1) c1 l1 ps1 (.im (.int (s : Int))) z5 z6 z7 z8 b1 (by omega) r1 fr_im m5 f6 f7 f8
    refine ⟨l2, ps2, c2, x4, x5, x6, x7, x8, r2, b2.mono (by omega), g4, m5', g6, g7, g8, ?_, ?_⟩
    · rcases sh2 with z | z
      · exact .inl z
      · rcases sh with ⟨rfl, z1⟩ | z1
        · cases k with
          | zero =>
            have le := no_less hw r1 r2 z1
            refine .inl ?_
            rcases Nat.eq_zero_or_pos 0 with _ | y
            · have e3 : idx (s + 1) 0 = [] := rfl
              rw [e3] at e2
              have e4 := So.nx.inj (show (So.nx _ : So) = So.nx _ from e2)
              have e5 : nd l1 = nd l2 := by
                have := congrArg (fun r : Rho => r[2]?) e4
                have := Option.some.inj this
                exact (Sl.ow.inj this).2
              have e6 : l1 = l2 := by
                exact (List.map_inj_right (fun a b h => by have := PyData.int.inj h; omega)).mp e5
              rw [← e6]
              exact z1
            · omega
          | succ k =>
            have le := no_less hw r1 r2 z1
            omega
        · exact .inr (by omega)
    · rw [idx_succ, forL_cons nm, e1]
      exact e2
theorem c_lw {w : Wd} {l : List Nat} {ps : List (Nat × Nat)} {B y4 y5 y6 y7 y8 : Sl} (h6 : Fr y6) (hl : ∀ x ∈ l, x < w.length) (hz : l.length ≤ 900) : lcF (seqI (varF 2)) (nameT 6) yesF (opF ixD (varF 1) (varF 6)) [6] (B9 B w l ps y4 y5 y6 y7 y8) = .ok (.fr ((l.map (wa w)).map pr)) [B, .im (wt w), .im (.list (nd l)), .ow false (ps.map fun p => pr (tp p)), y4, y5, y6, y7, y8] := by
  have I : seqI (varF 2) (B9 B w l ps y4 y5 y6 y7 y8) = .ok (nd l) [B, .im (wt w), .im (.list (nd l)), .ow false (ps.map fun p => pr (tp p)), y4, y5, y6, y7, y8] := rfl
  have pl' : plainAt [B, .im (wt w), .im (.list (nd l)), .ow false (ps.map fun p => pr (tp p)), y4, y5, y6, y7, y8] [6] = true := by rcases h6 with rfl | ⟨z, rfl⟩ <;> rfl
  have ww : wipeR [B, .im (wt w), .im (.list (nd l)), .ow false (ps.map fun p => pr (tp p)), y4, y5, y6, y7, y8] [6] = [B, .im (wt w), .im (.list (nd l)), .ow false (ps.map fun p => pr (tp p)), y4, y5, .un, y7, y8] := by rcases h6 with rfl | ⟨z, rfl⟩ <;> rfl
  have un' : unwipe [B, .im (wt w), .im (.list (nd l)), .ow false (ps.map fun p => pr (tp p)), y4, y5, y6, y7, y8] [B, .im (wt w), .im (.list (nd l)), .ow false (ps.map fun p => pr (tp p)), y4, y5, .un, y7, y8] [6] = [B, .im (wt w), .im (.list (nd l)), .ow false (ps.map fun p => pr (tp p)), y4, y5, y6, y7, y8] := by rcases h6 with rfl | ⟨z, rfl⟩ <;> rfl
  unfold lcF
  rw [I, bd_ok, if_pos pl', ww, lcL_map (f := fun d => match d with | .int i => pr (wa w i.toNat) | _ => .none) (nd l) [] (fun d hd => ?_) (by simp [sizeLine_eq]; omega), bd_ok, un']
  · rw [List.nil_append, List.map_map, List.map_map]
    congr 2
  · obtain ⟨a, ha, rfl⟩ := List.mem_map.mp hd
    have x := @ix_wt w a (hl a ha)
    refine ⟨[B, .im (wt w), .im (.list (nd l)), .ow false (ps.map fun p => pr (tp p)), y4, y5, .im (.int (a : Int)), y7, y8], [B, .im (wt w), .im (.list (nd l)), .ow false (ps.map fun p => pr (tp p)), y4, y5, .im (.int (a : Int)), y7, y8], rfl, ?_, rfl, rfl⟩
    show bd (frz (opF ixD _ _ _)) dat = .ok (pr (wa w a)) _
    generalize pr (wa w a) = A at *
    simp only [opF, varF, List.getElem?_cons_succ, List.getElem?_cons_zero, bd, frz, op2, dr, x, fin, dat]
theorem v_law_struck {w : Wd} (hw : Lw w) (hwz : w.length ≤ 100) {n : Nat} {c : Int × Int × Int} (h : Bx n c) (hn : n + w.length + 3 < 999) : ∃ l ps c', Rd w l ps ∧ Red (l.map (wa w)).reverse ∧ Bx (n + w.length) c' ∧
    ∀ (ρ : Rho) (i : Nat) (b : Bool), ρ[i]? = some (.ow b (bx c)) → foI 2 m_law_struck i [wt w] ρ = .ok (.im (.tuple [wt (l.map (wa w)), .list ((isrt (ps.map tp)).map pr)])) (ρ.set i (.ow b (bx c'))) := by
  have g : Sgn w := fun p hp => (hw p hp).2.2
  obtain ⟨l, ps, c', y4, y5, y6, y7, y8, r, b, f4, n5, f6, f7, f8, sh, e⟩ := l_tn g hwz w.length 0 n c (List.range w.length) [] .un .un .un .un .un h hn .base fr_un rfl fr_un fr_un fr_un
  have rd : Red (l.map (wa w)).reverse := by
    rcases sh with z | z
    · exact z
    · rw [List.length_range] at z
      have : l = [] := List.length_eq_zero_iff.mp (by omega)
      rw [this]
      exact True.intro
  have F := r.fit g
  have hl : ∀ x ∈ l, x < w.length := fun x hx => List.mem_range.mp (F.perm.mem_iff.mp (List.mem_append_left _ hx))
  have ll : l.length ≤ w.length := by have := F.perm.length_eq; rw [List.length_append, List.length_range] at this; omega
  refine ⟨l, ps, c', r, rd, b, fun ρ i bb hi => foI_of (r := [.im (wt w), .im (.list (nd l)), .ow false (ps.map fun p => pr (tp p)), y4, y5, y6, y7, y8]) ?_ rfl hi⟩
  unfold G_law_struck
  have lt : lenD [wt w] = some (.im (.int (w.length : Nat))) := by simp [lenD, wt]
  have z0 : parS 2 3 (rgL1F (consD (callF lenD (consF (varF 1) nilF)) nilD)) (lstF nilD) [.ow true (bx c), .im (wt w), .un, .un, .un, .un, .un, .un, .un] = .nx (B9 (.ow true (bx c)) w (List.range w.length) [] .un .un .un .un .un) := by
    have rb : rgB 0 (w.length : Int) = true := by
      unfold rgB
      simp only [Bool.and_eq_true, decide_eq_true_eq]
      omega
    have rg : rgL1F (consD (callF lenD (consF (varF 1) nilF)) nilD) [.ow true (bx c), .im (wt w), .un, .un, .un, .un, .un, .un, .un] = .ok (.fr (nd (List.range w.length))) [.ow true (bx c), .im (wt w), .un, .un, .un, .un, .un, .un, .un] := by
      have cc : consD (callF lenD (consF (varF 1) nilF)) nilD [.ow true (bx c), .im (wt w), .un, .un, .un, .un, .un, .un, .un] = .ok [.int (w.length : Nat)] [.ow true (bx c), .im (wt w), .un, .un, .un, .un, .un, .un, .un] := by
        simp only [consD, callF, consF, varF, nilF, nilD, List.getElem?_cons_succ, List.getElem?_cons_zero, bd, frz, call1, drs, dr, Option.map, lt, fin, dat]
      unfold rgL1F
      rw [cc, bd_ok]
      unfold rgL1
      dsimp only
      rw [if_pos rb, rng_idx, idx_rng]
    have ln : lstF nilD [.ow true (bx c), .im (wt w), .un, .un, .un, .un, .un, .un, .un] = .ok (.fr []) [.ow true (bx c), .im (wt w), .un, .un, .un, .un, .un, .un, .un] := rfl
    generalize rgL1F (consD (callF lenD (consF (varF 1) nilF)) nilD) = G at *
    show parS 2 3 G (lstF nilD) _ = .nx [.ow true (bx c), .im (wt w), .ow false (nd (List.range w.length)), .ow false [], .un, .un, .un, .un, .un]
    generalize nd (List.range w.length) = R at *
    unfold parS
    rw [rg]
    simp only [nrm, bd, bs, ln]
    rfl
  have I : rng1I (callF lenD (consF (varF 1) nilF)) (B9 (.ow true (bx c)) w (List.range w.length) [] .un .un .un .un .un) = .ok (idx 0 w.length) (B9 (.ow true (bx c)) w (List.range w.length) [] .un .un .un .un .un) := by
    refine rng1_of ?_ (by omega)
    simp only [callF, consF, varF, nilF, List.getElem?_cons_succ, List.getElem?_cons_zero, bd, frz, call1, drs, dr, Option.map, lt, fin, dat]
  show seqS _ (seqS (forS _ (nameT 4) b_tn) _) [.ow true (bx c), .im (wt w), .un, .un, .un, .un, .un, .un, .un] = _
  rw [seq_nx z0, seq_nx ((for_of I).trans e)]
  have cl := c_lw (w := w) (l := l) (ps := ps) (B := .ow true (bx c')) (y4 := y4) (y5 := y5) (y7 := y7) (y8 := y8) f6 hl (by omega)
  have so : sortedD [.list (ps.map fun p => pr (tp p))] = some (.fr ((isrt (ps.map tp)).map pr)) := by
    have := sorted_l (ps.map tp)
    rw [List.map_map] at this
    exact this
  have A : unF tupleD (lcF (seqI (varF 2)) (nameT 6) yesF (opF ixD (varF 1) (varF 6)) [6]) (B9 (.ow true (bx c')) w l ps y4 y5 y6 y7 y8) = .ok (.im (wt (l.map (wa w)))) [.ow true (bx c'), .im (wt w), .im (.list (nd l)), .ow false (ps.map fun p => pr (tp p)), y4, y5, y6, y7, y8] := by
    unfold unF
    rw [cl]
    rfl
  have Bq : callF sortedD (consF (varF 3) nilF) [.ow true (bx c'), .im (wt w), .im (.list (nd l)), .ow false (ps.map fun p => pr (tp p)), y4, y5, y6, y7, y8] = .ok (.fr ((isrt (ps.map tp)).map pr)) [.ow true (bx c'), .im (wt w), .im (.list (nd l)), .ow false (ps.map fun p => pr (tp p)), y4, y5, y6, y7, y8] := by
    show fin (sortedD [.list (ps.map fun p => pr (tp p))]) _ = _
    rw [so]
    rfl
  generalize unF tupleD (lcF (seqI (varF 2)) (nameT 6) yesF (opF ixD (varF 1) (varF 6)) [6]) = FA at *
  generalize callF sortedD (consF (varF 3) nilF) = FB at *
  unfold retS tupF consD
  rw [A]
  show bs (bd (bd (consD FB nilD _) _) _) _ = _
  unfold consD
  rw [Bq]
  rfl
end K01
end VL

namespace VL
open PySem PySem.Spec PyProof.Rows L2
open PySem.W (Datum Tup)

namespace K01
abbrev r_sp : Rho → So := retS (ifF (tstF (opF eqD (clI 2 m_law_take 0 (consD (cF (.int 3)) nilD)) (cF (.int 0)))) (unF tupleD (varF 3)) (unF tupleD (callF sortedD (consF (varF 3) nilF))))
abbrev W6 (B : Sl) (m : Int) (ps qs : List P2) (y4 y5 : Sl) : Rho := [B, .im (.int m), .im (.list (ps.map pr)), .ow false (qs.map pr), y4, y5]
theorem t_rsp {n : Nat} {c : Int × Int × Int} (h : Bx n c) (hn : n + 2 < 999) {m : Int} {ps qs : List P2} {y4 y5 : Sl} : ∃ rs, (rs = qs ∨ rs = isrt qs) ∧ r_sp (W6 (.ow true (bx c)) m ps qs y4 y5) = .rt (.im (.tuple (rs.map pr))) (W6 (.ow true (bx (box c 3))) m ps qs y4 y5) := by
  have t := @v_take n c h (by omega) 3 (by decide) (by decide) (W6 (.ow true (bx c)) m ps qs y4 y5) 0 true rfl
  have e := eqD_int (dig c 3) 0
  have C : tstF (opF eqD (clI 2 m_law_take 0 (consD (cF (.int 3)) nilD)) (cF (.int 0))) (W6 (.ow true (bx c)) m ps qs y4 y5) = .ok (decide (dig c 3 = 0)) (W6 (.ow true (bx (box c 3))) m ps qs y4 y5) := by
    have g : clI 2 m_law_take 0 (consD (cF (.int 3)) nilD) (W6 (.ow true (bx c)) m ps qs y4 y5) = .ok (.im (.int (dig c 3))) (W6 (.ow true (bx (box c 3))) m ps qs y4 y5) := t
    generalize decide (dig c 3 = 0) = z at *
    simp only [tstF, opF, g, cF, bd, frz, op2, dr, e, fin, blO]
  by_cases hc : dig c 3 = 0
  · rw [decide_eq_true hc] at C
    refine ⟨qs, .inl rfl, ?_⟩
    unfold r_sp retS ifF
    rw [C]
    rfl
  · rw [decide_eq_false hc] at C
    refine ⟨isrt qs, .inr rfl, ?_⟩
    have s := sorted_l qs
    have Bq : callF sortedD (consF (varF 3) nilF) (W6 (.ow true (bx (box c 3))) m ps qs y4 y5) = .ok (.fr ((isrt qs).map pr)) (W6 (.ow true (bx (box c 3))) m ps qs y4 y5) := by
      show fin (sortedD [.list (qs.map pr)]) _ = _
      rw [s]
      rfl
    unfold r_sp retS ifF
    rw [C]
    show bs (unF tupleD (callF sortedD (consF (varF 3) nilF)) _) _ = _
    unfold unF
    rw [Bq]
    rfl
theorem ix_pl {qs : List P2} {k : Nat} (h : k < qs.length) : ∃ q ∈ qs, qs[k]? = some q ∧ ixD (.list (qs.map pr)) (.int (k : Int)) = some (.im (pr q)) := by
  refine ⟨qs[k], List.getElem_mem h, List.getElem?_eq_getElem h, ixD_l ?_⟩
  rw [List.getElem?_map, List.getElem?_eq_getElem h]
  rfl
abbrev b_sm : Rho → So := iteS (andF (tstF (opF eqD (varF 4) (cF (.int 0)))) (tstF (opF gtD (callF lenD (consF (varF 3) nilF)) (cF (.int 0)))))
  (dropS (mutF popAtD 3 (consD (clI 2 m_law_take 0 (consD (callF lenD (consF (varF 3) nilF)) nilD)) nilD)))
  (iteS (andF (tstF (opF eqD (varF 4) (cF (.int 1)))) (tstF (opF gtD (callF lenD (consF (varF 3) nilF)) (cF (.int 0)))))
  (seqS (asgS 5 (clI 2 m_law_take 0 (consD (callF lenD (consF (varF 3) nilF)) nilD)))
  (setS 3 (tupF (consD (opF ixD (opF ixD (varF 3) (varF 5)) (cF (.int 0))) (consD (clI 2 m_law_take 0 (consD (varF 1) nilD)) nilD))) (varF 5)))
  (iteS (andF (tstF (opF eqD (varF 4) (cF (.int 2)))) (tstF (opF gtD (varF 1) (cF (.int 1)))))
  (dropS (mutF apD 3 (consD (tupF (consD (clI 2 m_law_take 0 (consD (opF subD (varF 1) (cF (.int 1))) nilD)) (consD (opF subD (varF 1) (cF (.int 1))) nilD))) nilD)))
  (dropS (mutF revD 3 nilD))))
theorem cli_of {n i : Nat} {m : List Sl → Fo} {F : Rho → Ou (List D)} {ρ ρ' : Rho} {ds : List D} {z : Ou Rs} (o : isOw ρ i = true) (h : F ρ = .ok ds ρ') (e : foI n m i ds ρ' = z) : clI n m i F ρ = z := by
  unfold clI
  rw [if_pos o, h]
  exact e
theorem mut_of {μ : List D → List D → Option (D × List D)} {i : Nat} {F : Rho → Ou (List D)} {ρ ρ' : Rho} {ds : List D} {z : Ou Rs} (o : isOw ρ i = true) (h : F ρ = .ok ds ρ') (e : mutO μ i ds ρ' = z) : mutF μ i F ρ = z := by
  unfold mutF
  rw [if_pos o, h]
  exact e
theorem mutO_of {μ : List D → List D → Option (D × List D)} {i : Nat} {ds xs ys : List D} {ρ : Rho} {b : Bool} {d : D} (h : ρ[i]? = some (.ow b xs)) (e : μ xs ds = some (d, ys)) : mutO μ i ds ρ = .ok (.im d) (ρ.set i (.ow b ys)) := by
  unfold mutO
  rw [h]
  dsimp only
  rw [e]
theorem er_map : ∀ (l : List P2) (k : Nat), (l.map pr).eraseIdx k = (l.eraseIdx k).map pr
  | [], _ => rfl
  | _ :: _, 0 => rfl
  | p :: l, k + 1 => by
    show pr p :: (l.map pr).eraseIdx k = pr p :: (l.eraseIdx k).map pr
    rw [er_map l k]
theorem cons_of {Fa : Rho → Ou Rs} {Fr : Rho → Ou (List D)} {ρ ρ1 ρ2 : Rho} {d : D} {ds : List D} (h : Fa ρ = .ok (.im d) ρ1) (k : Fr ρ1 = .ok ds ρ2) : consD Fa Fr ρ = .ok (d :: ds) ρ2 := by
  unfold consD
  rw [h]
  show bd (Fr ρ1) _ = _
  rw [k]
  rfl
theorem drop_of {F : Rho → Ou Rs} {ρ ρ' : Rho} {r : Rs} (h : F ρ = .ok r ρ') : dropS F ρ = .nx ρ' := by
  unfold dropS
  rw [h]
  rfl
theorem and_ok {F G : Rho → Ou Bool} {ρ : Rho} {a b : Bool} (h : F ρ = .ok a ρ) (k : G ρ = .ok b ρ) : andF F G ρ = .ok (a && b) ρ := by
  unfold andF
  rw [h, bd_ok]
  cases a
  · rw [if_neg Bool.false_ne_true]; rfl
  · rw [if_pos rfl, k]; rfl
theorem t_sm {w : Wd} {n : Nat} {c : Int × Int × Int} (h : Bx n c) (hn : n + 3 < 999) (hw : w.length ≤ 100) {ps : List P2} (hb : Inb w ps) (hz : ps.length ≤ 100) (x : Int) :
    ∃ qs c' y5, Inb w qs ∧ qs.length ≤ ps.length + 1 ∧ Bx (n + 2) c' ∧ b_sm (W6 (.ow true (bx c)) w.length ps ps (.im (.int x)) .un) = .nx (W6 (.ow true (bx c')) w.length ps qs (.im (.int x)) y5) := by
  have ll : lenD [.list (ps.map pr)] = some (.im (.int (ps.length : Nat))) := by simp [lenD]
  have k0 : ∀ i : Int, tstF (opF eqD (varF 4) (cF (.int i))) (W6 (.ow true (bx c)) w.length ps ps (.im (.int x)) .un) = .ok (decide (x = i)) (W6 (.ow true (bx c)) w.length ps ps (.im (.int x)) .un) := fun i => by
    have := eqD_int x i
    simp only [tstF, opF, varF, cF, List.getElem?_cons_succ, List.getElem?_cons_zero, bd, frz, op2, dr, this, fin, blO]
  have k1 : tstF (opF gtD (callF lenD (consF (varF 3) nilF)) (cF (.int 0))) (W6 (.ow true (bx c)) w.length ps ps (.im (.int x)) .un) = .ok (decide ((0 : Int) < (ps.length : Nat))) (W6 (.ow true (bx c)) w.length ps ps (.im (.int x)) .un) := by
    simp only [tstF, opF, callF, consF, varF, nilF, cF, List.getElem?_cons_succ, List.getElem?_cons_zero, bd, frz, call1, drs, dr, Option.map, ll, fin, op2, gtD, intD, if_true, blO]
  have k2 : tstF (opF gtD (varF 1) (cF (.int 1))) (W6 (.ow true (bx c)) w.length ps ps (.im (.int x)) .un) = .ok (decide ((1 : Int) < (w.length : Nat))) (W6 (.ow true (bx c)) w.length ps ps (.im (.int x)) .un) := rfl
  have C0 := and_ok (k0 0) k1
  have C1 := and_ok (k0 1) k1
  have C2 := and_ok (k0 2) k2
  have lenc : ∀ (B y5 : Sl), consD (callF lenD (consF (varF 3) nilF)) nilD (W6 B w.length ps ps (.im (.int x)) y5) = .ok [.int (ps.length : Nat)] (W6 B w.length ps ps (.im (.int x)) y5) := fun B y5 => by
    simp only [consD, callF, consF, varF, nilF, nilD, List.getElem?_cons_succ, List.getElem?_cons_zero, bd, frz, call1, drs, dr, Option.map, ll, fin, dat]
  by_cases h0 : x = 0 ∧ 0 < ps.length
  · have e : (decide (x = 0) && decide ((0 : Int) < (ps.length : Nat))) = true := by rw [decide_eq_true h0.1, decide_eq_true (by omega)]; rfl
    rw [e] at C0
    have hm : (0 : Int) < (ps.length : Int) := by omega
    obtain ⟨d0, d1⟩ := dig_b c hm
    obtain ⟨k, hk⟩ : ∃ k : Nat, dig c (ps.length : Int) = (k : Int) := ⟨_, (Int.toNat_of_nonneg d0).symm⟩
    have t := @v_take n c h (by omega) (ps.length : Int) hm (by omega) (W6 (.ow true (bx c)) w.length ps ps (.im (.int x)) .un) 0 true rfl
    rw [hk] at t
    have g : clI 2 m_law_take 0 (consD (callF lenD (consF (varF 3) nilF)) nilD) (W6 (.ow true (bx c)) w.length ps ps (.im (.int x)) .un) = .ok (.im (.int (k : Int))) (W6 (.ow true (bx (box c (ps.length : Int)))) w.length ps ps (.im (.int x)) .un) := cli_of rfl (lenc _ _) t
    refine ⟨ps.eraseIdx k, box c (ps.length : Int), .un, fun p hp => hb p (List.mem_of_mem_eraseIdx hp), by have := List.length_eraseIdx_le ps k; omega, (box_ok h hm).mono (by omega), ?_⟩
    unfold b_sm
    rw [ite_t C0]
    have pa : popAtD (ps.map pr) [.int (k : Int)] = some (pr (ps.getD k (0, 0)), (ps.eraseIdx k).map pr) := by
      have sk : seqIndex? (k : Int) (ps.map pr).length = some k := by simp [seqIndex?]; omega
      have gk : (ps.map pr)[k]? = some (pr (ps.getD k (0, 0))) := by
        rw [List.getElem?_map, List.getD_eq_getElem?_getD, List.getElem?_eq_getElem (by omega)]
        rfl
      have b1 : (decide (-9223372036854775808 ≤ (k : Int)) && decide ((k : Int) < 9223372036854775808)) = true := by
        rw [Bool.and_eq_true, decide_eq_true_eq, decide_eq_true_eq]; omega
      have er := er_map ps k
      unfold popAtD
      dsimp only
      rw [if_pos b1, sk]
      dsimp only
      rw [gk]
      dsimp only
      rw [er]
    generalize ps.getD k (0, 0) = q0 at *
    exact drop_of (mut_of (μ := popAtD) (i := 3) rfl (cons_of g (show nilD _ = .ok [] _ from rfl)) (mutO_of (μ := popAtD) (i := 3) (ρ := W6 (.ow true (bx (box c (ps.length : Int)))) w.length ps ps (.im (.int x)) .un) rfl pa))
  · have e : (decide (x = 0) && decide ((0 : Int) < (ps.length : Nat))) = false := by
      by_cases a : x = 0
      · rw [decide_eq_false (p := (0 : Int) < (ps.length : Nat)) (by omega)]; simp
      · rw [decide_eq_false a]; rfl
    rw [e] at C0
    unfold b_sm
    rw [ite_f C0]
    by_cases h1 : x = 1 ∧ 0 < ps.length
    · have e : (decide (x = 1) && decide ((0 : Int) < (ps.length : Nat))) = true := by rw [decide_eq_true h1.1, decide_eq_true (by omega)]; rfl
      rw [e] at C1
      have hm : (0 : Int) < (ps.length : Int) := by omega
      obtain ⟨d0, d1⟩ := dig_b c hm
      obtain ⟨k, hk⟩ : ∃ k : Nat, dig c (ps.length : Int) = (k : Int) := ⟨_, (Int.toNat_of_nonneg d0).symm⟩
      have hkl : k < ps.length := by omega
      have t := @v_take n c h (by omega) (ps.length : Int) hm (by omega) (W6 (.ow true (bx c)) w.length ps ps (.im (.int x)) .un) 0 true rfl
      rw [hk] at t
      have bq := hb (ps[k]) (List.getElem_mem hkl)
      have hwp : (0 : Int) < (w.length : Int) := by omega
      have b1 := box_ok h hm
      have b2 := box_ok b1 hwp
      obtain ⟨e0, e1⟩ := dig_b (box c (ps.length : Int)) hwp
      have t2 := @v_take (n + 1) (box c (ps.length : Int)) b1 (by omega) (w.length : Int) hwp (by omega) (W6 (.ow true (bx (box c (ps.length : Int)))) w.length ps ps (.im (.int x)) (.im (.int (k : Int)))) 0 true rfl
      have z1 : asgS 5 (clI 2 m_law_take 0 (consD (callF lenD (consF (varF 3) nilF)) nilD)) (W6 (.ow true (bx c)) w.length ps ps (.im (.int x)) .un) = .nx (W6 (.ow true (bx (box c (ps.length : Int)))) w.length ps ps (.im (.int x)) (.im (.int (k : Int)))) := by
        unfold asgS
        rw [cli_of (n := 2) (m := m_law_take) (i := 0) rfl (lenc (.ow true (bx c)) .un) t]
        rfl
      have g2 : clI 2 m_law_take 0 (consD (varF 1) nilD) (W6 (.ow true (bx (box c (ps.length : Int)))) w.length ps ps (.im (.int x)) (.im (.int (k : Int)))) = .ok (.im (.int (dig (box c (ps.length : Int)) w.length))) (W6 (.ow true (bx (box (box c (ps.length : Int)) w.length))) w.length ps ps (.im (.int x)) (.im (.int (k : Int)))) := cli_of rfl (cons_of rfl rfl) t2
      have xk : ixD (.list (ps.map pr)) (.int (k : Int)) = some (.im (pr ps[k])) := ixD_l (by rw [List.getElem?_map, List.getElem?_eq_getElem hkl]; rfl)
      have xp : ixD (pr ps[k]) (.int 0) = some (.im (.int ps[k].1)) := ixD_0 _ _
      have g1 : opF ixD (opF ixD (varF 3) (varF 5)) (cF (.int 0)) (W6 (.ow true (bx (box c (ps.length : Int)))) w.length ps ps (.im (.int x)) (.im (.int (k : Int)))) = .ok (.im (.int ps[k].1)) (W6 (.ow true (bx (box c (ps.length : Int)))) w.length ps ps (.im (.int x)) (.im (.int (k : Int)))) := by
        simp only [opF, varF, cF, List.getElem?_cons_succ, List.getElem?_cons_zero, bd, frz, op2, dr, xk, fin, xp]
      have g3 := cons_of g1 (cons_of g2 (show nilD _ = .ok [] _ from rfl))
      generalize dig (box c (ps.length : Int)) w.length = dd at *
      generalize box (box c (ps.length : Int)) w.length = c2 at *
      refine ⟨ps.set k (ps[k].1, dd), c2, .im (.int (k : Int)), fun p hp => ?_, by rw [List.length_set]; omega, ?_, ?_⟩
      · rcases List.mem_or_eq_of_mem_set hp with z | z
        · exact hb p z
        · rw [z]; exact ⟨bq.1, bq.2.1, e0, e1⟩
      · exact b2
      · rw [ite_t C1, seq_nx z1]
        have tf : tupF (consD (opF ixD (opF ixD (varF 3) (varF 5)) (cF (.int 0))) (consD (clI 2 m_law_take 0 (consD (varF 1) nilD)) nilD)) (W6 (.ow true (bx (box c (ps.length : Int)))) w.length ps ps (.im (.int x)) (.im (.int (k : Int)))) = .ok (.im (pr (ps[k].1, dd))) (W6 (.ow true (bx c2)) w.length ps ps (.im (.int x)) (.im (.int (k : Int)))) := by
          unfold tupF
          rw [g3, bd_ok]
          rfl
        have ie : ixN (ps.map pr).length (k : Int) = some k := by rw [List.length_map]; exact ixN_nat hkl
        have sm : (ps.map pr).set k (pr (ps[k].1, dd)) = (ps.set k (ps[k].1, dd)).map pr := by rw [List.map_set]
        unfold setS
        rw [tf]
        show setO 3 (pr (ps[k].1, dd)) (.int (k : Int)) (W6 (.ow true (bx c2)) w.length ps ps (.im (.int x)) (.im (.int (k : Int)))) = _
        unfold setO
        show (match ixN (ps.map pr).length (k : Int) with | some j => So.nx _ | none => .bad) = _
        rw [ie]
        show So.nx _ = _
        show So.nx [_, _, _, Sl.ow false ((ps.map pr).set k (pr (ps[k].1, dd))), _, _] = _
        rw [sm]
    · have e : (decide (x = 1) && decide ((0 : Int) < (ps.length : Nat))) = false := by
        by_cases a : x = 1
        · rw [decide_eq_false (p := (0 : Int) < (ps.length : Nat)) (by omega)]; simp
        · rw [decide_eq_false a]; rfl
      rw [e] at C1
      rw [ite_f C1]
      by_cases h2 : x = 2 ∧ 1 < w.length
      · have e : (decide (x = 2) && decide ((1 : Int) < (w.length : Nat))) = true := by rw [decide_eq_true h2.1, decide_eq_true (by omega)]; rfl
        rw [e] at C2
        have hm : (0 : Int) < (w.length : Int) - 1 := by omega
        obtain ⟨d0, d1⟩ := dig_b c hm
        have t := @v_take n c h (by omega) ((w.length : Int) - 1) hm (by omega) (W6 (.ow true (bx c)) w.length ps ps (.im (.int x)) .un) 0 true rfl
        have s1 : ∀ (B : Sl), opF subD (varF 1) (cF (.int 1)) (W6 B w.length ps ps (.im (.int x)) .un) = .ok (.im (.int ((w.length : Int) - 1))) (W6 B w.length ps ps (.im (.int x)) .un) := fun B => rfl
        have g : clI 2 m_law_take 0 (consD (opF subD (varF 1) (cF (.int 1))) nilD) (W6 (.ow true (bx c)) w.length ps ps (.im (.int x)) .un) = .ok (.im (.int (dig c ((w.length : Int) - 1)))) (W6 (.ow true (bx (box c ((w.length : Int) - 1)))) w.length ps ps (.im (.int x)) .un) := cli_of rfl (cons_of (s1 _) rfl) t
        have b1 := box_ok h hm
        have g2 := cons_of g (cons_of (s1 _) (show nilD _ = .ok [] _ from rfl))
        generalize dig c ((w.length : Int) - 1) = dd at *
        generalize box c ((w.length : Int) - 1) = c2 at *
        refine ⟨ps ++ [(dd, (w.length : Int) - 1)], c2, .un, fun p hp => ?_, by simp, b1.mono (by omega), ?_⟩
        · rcases List.mem_append.mp hp with z | z
          · exact hb p z
          · rw [List.mem_singleton] at z
            rw [z]
            exact ⟨d0, by show dd < _; omega, by show (0 : Int) ≤ (w.length : Int) - 1; omega, by show (w.length : Int) - 1 < _; omega⟩
        · rw [ite_t C2]
          have tf : tupF (consD (clI 2 m_law_take 0 (consD (opF subD (varF 1) (cF (.int 1))) nilD)) (consD (opF subD (varF 1) (cF (.int 1))) nilD)) (W6 (.ow true (bx c)) w.length ps ps (.im (.int x)) .un) = .ok (.im (pr (dd, (w.length : Int) - 1))) (W6 (.ow true (bx c2)) w.length ps ps (.im (.int x)) .un) := by
            unfold tupF
            rw [g2, bd_ok]
            rfl
          have ap : apD (ps.map pr) [pr (dd, (w.length : Int) - 1)] = some (.none, (ps ++ [(dd, (w.length : Int) - 1)]).map pr) := by
            rw [List.map_append]
            exact apD_ok (by rw [List.length_map, sizeLine_eq]; omega)
          exact drop_of (mut_of (μ := apD) (i := 3) rfl (cons_of tf (show nilD _ = .ok [] _ from rfl)) (mutO_of (μ := apD) (i := 3) (ρ := W6 (.ow true (bx c2)) w.length ps ps (.im (.int x)) .un) rfl ap))
      · have e : (decide (x = 2) && decide ((1 : Int) < (w.length : Nat))) = false := by
          by_cases a : x = 2
          · rw [decide_eq_false (p := (1 : Int) < (w.length : Nat)) (by omega)]; simp
          · rw [decide_eq_false a]; rfl
        rw [e] at C2
        rw [ite_f C2]
        have rv : revD (ps.map pr) [] = some (.none, ps.reverse.map pr) := by
          unfold revD
          dsimp only
          rw [List.map_reverse]
        refine ⟨ps.reverse, c, .un, fun p hp => hb p (List.mem_reverse.mp hp), by simp, h.mono (by omega), ?_⟩
        exact drop_of (mut_of (μ := revD) (i := 3) rfl (show nilD _ = .ok [] _ from rfl) (mutO_of (μ := revD) (i := 3) (ρ := W6 (.ow true (bx c)) w.length ps ps (.im (.int x)) .un) rfl rv))
end K01
end VL

namespace VL
open PySem PySem.Spec PyProof.Rows L2
open PySem.W (Datum Tup)

namespace K01
theorem inb_isrt {w : Wd} {ps : List P2} (h : Inb w ps) : Inb w (isrt ps) := fun p hp => h p ((isrt_perm ps).mem_iff.mp hp)
theorem v_spoilt {w : Wd} {n : Nat} {c : Int × Int × Int} (h : Bx n c) (hn : n + 8 < 999) (hw : w.length ≤ 100) {ps : List P2} (hb : Inb w ps) (hz : ps.length ≤ 100) :
    ∃ qs c', Inb w qs ∧ qs.length ≤ ps.length + 1 ∧ Bx (n + 4) c' ∧ ∀ (ρ : Rho) (i : Nat) (b : Bool), ρ[i]? = some (.ow b (bx c)) → foI 3 m_law_spoilt i [.int (w.length : Nat), .list (ps.map pr)] ρ = .ok (.im (.tuple (qs.map pr))) (ρ.set i (.ow b (bx c'))) := by
  have b0 := box_ok h (show (0 : Int) < 4 by decide)
  obtain ⟨qs, c1, y5, i1, i2, b1, e1⟩ := t_sm (w := w) b0 (by omega) hw hb hz (dig c 4)
  obtain ⟨rs, hrs, e2⟩ := @t_rsp (n + 1 + 2) c1 b1 (by omega) (w.length : Nat) ps qs (.im (.int (dig c 4))) y5
  have b2 := box_ok b1 (show (0 : Int) < 3 by decide)
  have t := @v_take n c h (by omega) 4 (by decide) (by decide) [.ow true (bx c), .im (.int (w.length : Nat)), .im (.list (ps.map pr)), .un, .un, .un] 0 true rfl
  have g : clI 2 m_law_take 0 (consD (cF (.int 4)) nilD) [.ow true (bx c), .im (.int (w.length : Nat)), .im (.list (ps.map pr)), .un, .un, .un] = .ok (.im (.int (dig c 4))) [.ow true (bx (box c 4)), .im (.int (w.length : Nat)), .im (.list (ps.map pr)), .un, .un, .un] := t
  have li : callF listD (consF (varF 2) nilF) [.ow true (bx c), .im (.int (w.length : Nat)), .im (.list (ps.map pr)), .un, .un, .un] = .ok (.fr (ps.map pr)) [.ow true (bx c), .im (.int (w.length : Nat)), .im (.list (ps.map pr)), .un, .un, .un] := rfl
  have z0 : parS 3 4 (callF listD (consF (varF 2) nilF)) (clI 2 m_law_take 0 (consD (cF (.int 4)) nilD)) [.ow true (bx c), .im (.int (w.length : Nat)), .im (.list (ps.map pr)), .un, .un, .un] = .nx (W6 (.ow true (bx (box c 4))) w.length ps ps (.im (.int (dig c 4))) .un) := by
    generalize clI 2 m_law_take 0 (consD (cF (.int 4)) nilD) = G at *
    unfold parS
    rw [li]
    simp only [nrm, bd, bs, g]
    rfl
  have hr : Inb w rs ∧ rs.length ≤ ps.length + 1 := by
    rcases hrs with rfl | rfl
    · exact ⟨i1, i2⟩
    · exact ⟨inb_isrt i1, by rw [(isrt_perm qs).length_eq]; exact i2⟩
  refine ⟨rs, box c1 3, hr.1, hr.2, b2.mono (by omega), fun ρ i b hi => foI_of (r := [.im (.int (w.length : Nat)), .im (.list (ps.map pr)), .ow false (qs.map pr), .im (.int (dig c 4)), y5]) ?_ rfl hi⟩
  unfold G_law_spoilt
  show seqS _ (seqS b_sm r_sp) [.ow true (bx c), .im (.int (w.length : Nat)), .im (.list (ps.map pr)), .un, .un, .un] = _
  rw [seq_nx z0, seq_nx e1]
  exact e2
/-! ### the word's own checks -/
abbrev lp (p : P2) : D := .list [.int p.1, .int p.2]
abbrev X12 (B : Sl) (w : Wd) (y2 y3 y4 y5 y6 y7 y8 : Sl) : Rho := [B, .im (wt w), y2, y3, y4, y5, y6, y7, y8, .un, .un, .un]
theorem giv_lc {B : Sl} {w : Wd} {y2 y3 y4 y5 y6 y7 y8 : Sl} (hz : w.length ≤ 900) : lcF (seqI (varF 1)) (nameT 9) yesF (callF listD (consF (varF 9) nilF)) [9] (X12 B w y2 y3 y4 y5 y6 y7 y8) = .ok (.fr (w.map lp)) (X12 B w y2 y3 y4 y5 y6 y7 y8) := by
  have I : seqI (varF 1) (X12 B w y2 y3 y4 y5 y6 y7 y8) = .ok (w.map pr) (X12 B w y2 y3 y4 y5 y6 y7 y8) := rfl
  have g : (w.map pr).map (fun d => match d with | .tuple xs => PyData.list xs | _ => .none) = w.map lp := by rw [List.map_map]; rfl
  unfold lcF
  rw [I, bd_ok, if_pos (show plainAt _ _ = true from rfl), show wipeR (X12 B w y2 y3 y4 y5 y6 y7 y8) [9] = X12 B w y2 y3 y4 y5 y6 y7 y8 from rfl,
    lcL_map (f := fun d => match d with | .tuple xs => PyData.list xs | _ => .none) (w.map pr) [] (fun d hd => ?_) (by simp [sizeLine_eq]; omega), bd_ok, g]
  · rfl
  · obtain ⟨p, hp, rfl⟩ := List.mem_map.mp hd
    exact ⟨[B, .im (wt w), y2, y3, y4, y5, y6, y7, y8, .im (pr p), .un, .un], [B, .im (wt w), y2, y3, y4, y5, y6, y7, y8, .im (pr p), .un, .un], rfl, rfl, rfl, rfl⟩
theorem lw_sm {w : Wd} (h : Lw w) : ∀ p ∈ w, Sm p.1 ∧ Sm p.2 := fun p hp => by
  have := h p hp
  unfold Sm
  omega
theorem pp_sm {w : Wd} (hw : w.length ≤ 1000) {ps : List P2} (P : PP w ps) : ∀ p ∈ ps, Sm p.1 ∧ Sm p.2 := fun p hp => by
  have := P.ok p hp
  unfold okP at this
  unfold Sm
  omega
theorem pp_inb {w : Wd} {ps : List P2} (P : PP w ps) : Inb w ps := fun p hp => by
  have := P.ok p hp
  unfold okP at this
  exact ⟨this.1, by omega, by omega, this.2.2.1⟩
theorem rd_len {w : Wd} (g : Sgn w) {l : List Nat} {ps : List (Nat × Nat)} (h : Rd w l ps) (r : Red (l.map (wa w)).reverse) : 2 * ps.length + (strike w).length = w.length := by
  have F := h.fit g
  have e := (fit_PP F r).2
  have hl := F.perm.length_eq
  have hpl : (plc ps).length = 2 * ps.length := by
    clear hl e F r h
    induction ps with
    | nil => rfl
    | cons p r ih =>
      have : plc (p :: r) = plc [p] ++ plc r := plc_app [p] r
      rw [this, List.length_append, ih]
      simp [plc]; omega
  rw [List.length_append, List.length_range] at hl
  rw [e, List.length_map]
  omega
end K01
end VL

namespace VL
open PySem PySem.Spec PyProof.Rows L2
open PySem.W (Datum Tup)

namespace K01
theorem clk1 {m : List Sl → Fo} {G : Rho → Ou (List D)} {ρ ρ' : Rho} {d : D} {z : Ou Rs} (h : G ρ = .ok [d] ρ') (e : foE 1 m [d] ρ' = z) : clKF 1 m [0] 0 1 nilD G ρ = z := by
  show bd (G ρ) _ = _
  rw [h]
  exact e
theorem clk2 {m : List Sl → Fo} {G : Rho → Ou (List D)} {ρ ρ' : Rho} {d d2 : D} {z : Ou Rs} (h : G ρ = .ok [d, d2] ρ') (e : foE 2 m [d, d2] ρ' = z) : clKF 2 m [0, 1] 0 2 nilD G ρ = z := by
  show bd (G ρ) _ = _
  rw [h]
  exact e
theorem ne_rp {Fa Fb : Rho → Ou Rs} {ρ : Rho} {d : D} {x : Str} (h : Fa ρ = .ok (.im d) ρ) (k : Fb ρ = .ok (.im d) ρ) (hx : reprD [d] = some (.im (.str x))) : tstF (opF neSD (callF reprD (consF Fa nilF)) (callF reprD (consF Fb nilF))) ρ = .ok false ρ := by
  have nn := neSD_same x
  simp only [tstF, opF, callF, consF, h, k, nilF, bd, frz, call1, drs, dr, Option.map, hx, fin, op2, nn, blO]
theorem tst_im {F : Rho → Ou Rs} {ρ ρ' : Rho} {b : Bool} (h : F ρ = .ok (.im (.bool b)) ρ') : tstF F ρ = .ok b ρ' := by
  unfold tstF
  rw [h]
  rfl
theorem not_ok {F : Rho → Ou Bool} {ρ ρ' : Rho} {b : Bool} (h : F ρ = .ok b ρ') : notF F ρ = .ok (!b) ρ' := by
  unfold notF
  rw [h]
  rfl
abbrev b_wr : Rho → So := seqS (asgS 7 (clI 3 m_law_spoilt 0 (consD (callF lenD (consF (varF 1) nilF)) (consD (varF 3) nilD))))
  (iteS (tstF (opF neSD (callF reprD (consF (clKF 2 m_strikes_hold [0, 1] 0 2 nilD (consD (varF 1) (consD (varF 7) nilD))) nilF)) (callF reprD (consF (clF 2 m_law_pairs_right (consD (varF 1) (consD (varF 7) nilD))) nilF))))
  (retS (cF (.bool false)))
  nxS)
theorem l_wr {w : Wd} (hw : Lw w) (hz : w.length ≤ 14) {A : List P2} (hb : Inb w A) (ha : A.length ≤ 20) {y2 y4 y5 : Sl} : ∀ (k s n : Nat) (c : Int × Int × Int) (y6 y7 : Sl), Bx n c → n + 4 * k + 10 < 999 → Fr y6 → Fr y7 →
    ∃ c' y6' y7', Bx (n + 4 * k) c' ∧ forL (nameT 6) b_wr (idx s k) (X12 (.ow true (bx c)) w y2 (.im (.list (A.map pr))) y4 y5 y6 y7 .un) = .nx (X12 (.ow true (bx c')) w y2 (.im (.list (A.map pr))) y4 y5 y6' y7' .un)
  | 0, s, n, c, y6, y7, h, hn, h6, h7 => ⟨c, y6, y7, h, rfl⟩
  | k + 1, s, n, c, y6, y7, h, hn, h6, h7 => by
    have g : Sgn w := fun p hp => (hw p hp).2.2
    have nm : nameT 6 (.int (s : Int)) (X12 (.ow true (bx c)) w y2 (.im (.list (A.map pr))) y4 y5 y6 y7 .un) = some (X12 (.ow true (bx c)) w y2 (.im (.list (A.map pr))) y4 y5 (.im (.int (s : Int))) y7 .un) := by rcases h6 with rfl | ⟨e, rfl⟩ <;> rfl
    obtain ⟨qs, c1, i1, i2, b1, e1⟩ := v_spoilt (w := w) h (by omega) (by omega) hb (by omega)
    have ll : lenD [wt w] = some (.im (.int (w.length : Nat))) := by simp [lenD, wt]
    have cc : consD (callF lenD (consF (varF 1) nilF)) (consD (varF 3) nilD) (X12 (.ow true (bx c)) w y2 (.im (.list (A.map pr))) y4 y5 (.im (.int (s : Int))) y7 .un) = .ok [.int (w.length : Nat), .list (A.map pr)] (X12 (.ow true (bx c)) w y2 (.im (.list (A.map pr))) y4 y5 (.im (.int (s : Int))) y7 .un) := by
      refine cons_of (ρ1 := X12 (.ow true (bx c)) w y2 (.im (.list (A.map pr))) y4 y5 (.im (.int (s : Int))) y7 .un) ?_ rfl
      show fin (lenD [wt w]) _ = _
      rw [ll]
      rfl
    have z1 : asgS 7 (clI 3 m_law_spoilt 0 (consD (callF lenD (consF (varF 1) nilF)) (consD (varF 3) nilD))) (X12 (.ow true (bx c)) w y2 (.im (.list (A.map pr))) y4 y5 (.im (.int (s : Int))) y7 .un) = .nx (X12 (.ow true (bx c1)) w y2 (.im (.list (A.map pr))) y4 y5 (.im (.int (s : Int))) (.im (.tuple (qs.map pr))) .un) := by
      unfold asgS
      rw [cli_of (n := 3) (m := m_law_spoilt) (i := 0) rfl cc (e1 _ 0 true rfl)]
      rcases h7 with rfl | ⟨e, rfl⟩ <;> rfl
    have hh := v_hold (isW_wt hw) (by omega) qs
    have hp := v_pairs_right (w := w) (ps := qs) (by omega) (by omega) i1
    rw [hold_lawR g i1] at hh
    have bx' : ∃ x, reprD [.bool (lawR w qs)] = some (.im (.str x)) := by cases lawR w qs <;> exact ⟨_, rfl⟩
    obtain ⟨x, hx⟩ := bx'
    have C := ne_rp (Fa := clKF 2 m_strikes_hold [0, 1] 0 2 nilD (consD (varF 1) (consD (varF 7) nilD))) (Fb := clF 2 m_law_pairs_right (consD (varF 1) (consD (varF 7) nilD))) (ρ := X12 (.ow true (bx c1)) w y2 (.im (.list (A.map pr))) y4 y5 (.im (.int (s : Int))) (.im (.tuple (qs.map pr))) .un)
      (clk2 (ρ' := X12 (.ow true (bx c1)) w y2 (.im (.list (A.map pr))) y4 y5 (.im (.int (s : Int))) (.im (.tuple (qs.map pr))) .un) rfl (hh _)) (cl_of (ds := [wt w, .tuple (qs.map pr)]) rfl (hp _)) hx
    obtain ⟨c2, a, b, b2, e2⟩ := l_wr hw hz hb ha (y2 := y2) (y4 := y4) (y5 := y5) k (s + 1) (n + 4) c1 (.im (.int (s : Int))) (.im (.tuple (qs.map pr))) b1 (by omega) fr_im fr_im
    refine ⟨c2, a, b, b2.mono (by omega), ?_⟩
    rw [idx_succ, forL_cons nm, show b_wr (X12 (.ow true (bx c)) w y2 (.im (.list (A.map pr))) y4 y5 (.im (.int (s : Int))) y7 .un) = .nx (X12 (.ow true (bx c1)) w y2 (.im (.list (A.map pr))) y4 y5 (.im (.int (s : Int))) (.im (.tuple (qs.map pr))) .un) from (seq_nx z1).trans ((ite_f C).trans (nx_s _))]
    exact e2
end K01
end VL

namespace VL
open PySem PySem.Spec PyProof.Rows L2
open PySem.W (Datum Tup)

namespace K01
theorem hold_t {d : D} {w : Wd} (h : isW d w) (hz : w.length ≤ 900) {ps : List P2} (P : PP w ps) (ρ : Rho) : foE 2 m_strikes_hold [d, .tuple (ps.map pr)] ρ = .ok (.im (.bool true)) ρ := by
  have := v_hold h hz ps ρ
  rw [hold_iff.mpr P] at this
  exact this
theorem hold_bad {d e : D} {w : Wd} (h : isW d w) (hz : w.length ≤ 900) (v : ∀ ρ, foE 2 m_partners_or_none [wt w, e] ρ = .ok (.im .none) ρ) (ht : isiD "tuple" e = some (.im (.bool true))) (ρ : Rho) : foE 2 m_strikes_hold [d, e] ρ = .ok (.im (.bool false)) ρ := by
  have nw := v_need_word h (by rw [sizeLine_eq]; omega) (.int (-1))
  refine foE_of (n := 2) (k := 7) (G := G_strikes_hold) (ds := [d, e]) ?_ rfl ρ
  have z0 : asgS 0 (clF 2 m_need_word (consD (varF 0) (consD (unF negD (cF (.int 1))) nilD))) [.im d, .im e, .un, .un, .un, .un, .un, .un, .un] = .nx [.im (wt w), .im e, .un, .un, .un, .un, .un, .un, .un] := hd_z0 nw
  have z1 : iteS (notF (tstF (unF (isiD "tuple") (varF 1)))) (retS (cF (.bool false))) nxS [.im (wt w), .im e, .un, .un, .un, .un, .un, .un, .un] = .nx [.im (wt w), .im e, .un, .un, .un, .un, .un, .un, .un] := by simp [retS, seqS, asgS, clF, clI, clKF, isOw, consD, consF, callF, call1, drs, opF, op2, unF, op1, varF, cF, nilD, nilF, bd, bs, frz, dr, fin, dat, setN, pin_0, pin_s, np_im, np_un, np_ow, iteS, tstF, blO, nxS, dropS, mutF, mutO, thaw, tupF, lstF, tupD, lstD, andF, orF, notF, andV, orV, notV, ifF, tgS, tupU, consT, nameT, nilT, parS, slF, noO, parO, intO, slO, isnD, unS, out, retV, negD, subD, intD, unF, op1, truF, truO, tru, parN, consL, addL, nilL, parM, setL, slOf, nrm, two, ltD, gtD, leD, geD, ht]
  have z2 : asgS 2 (clF 2 m_partners_or_none (consD (varF 0) (consD (varF 1) nilD))) [.im (wt w), .im e, .un, .un, .un, .un, .un, .un, .un] = .nx [.im (wt w), .im e, .im .none, .un, .un, .un, .un, .un, .un] := hd_z2n v
  unfold G_strikes_hold
  show out (seqS _ (seqS _ (seqS _ (seqS _ _))) [.im d, .im e, .un, .un, .un, .un, .un, .un, .un]) = _
  rw [seq_nx z0, seq_nx z1, seq_nx z2, seq_rt (show iteS (tstF (unF (isnD false) (varF 2))) (retS (cF (.bool false))) nxS _ = .rt (.im (.bool false)) [.im (wt w), .im e, .im .none, .un, .un, .un, .un, .un, .un] from rfl)]
  rfl
abbrev odd1 (A : List P2) : D := .tuple (A.map pr ++ [.tuple [.int 0]])
abbrev odd2 (A : List P2) : D := .tuple (A.map lp ++ [lp (0, 1)])
abbrev odd3 (w : Wd) (A : List P2) : D := .tuple (A.map pr ++ [pr ((w.length : Int), (w.length : Int) + 1)])
theorem odd_no {w : Wd} (hw : Lw w) (hz : w.length ≤ 900) (A : List P2) {d : D} (hd : d = odd1 A ∨ d = odd2 A ∨ d = odd3 w A) (ρ : Rho) : foE 2 m_strikes_hold [wt w, d] ρ = .ok (.im (.bool false)) ρ := by
  rcases hd with rfl | rfl | rfl
  · exact hold_bad (isW_wt hw) hz (v_pn_bad hz A (d := .tuple [.int 0]) (fun ρ => v_is_tuple_of _ 2 ρ) []) rfl ρ
  · refine hold_bad (isW_wt hw) hz ?_ rfl ρ
    cases A with
    | nil => exact v_pn_bad hz [] (d := lp (0, 1)) (fun ρ => v_is_tuple_of _ 2 ρ) []
    | cons p A => exact v_pn_bad hz [] (d := lp p) (fun ρ => v_is_tuple_of _ 2 ρ) (A.map lp ++ [lp (0, 1)])
  · refine hold_bad (isW_wt hw) hz ?_ rfl ρ
    have s := pn_spec (A ++ [((w.length : Int), (w.length : Int) + 1)]) [] (mone w.length) (-1, -1) (dsc_nil w) (fun _ z => nomatch z) (by simp [plcI])
    have e : pnO w (A ++ [((w.length : Int), (w.length : Int) + 1)]) = none := by
      rcases s with ⟨_, _, h, _⟩ | ⟨h, _⟩
      · have := h ((w.length : Int), (w.length : Int) + 1) (by simp)
        unfold okP at this
        have t3 : (w.length : Int) + 1 < (w.length : Int) := this.2.2.1
        omega
      · exact h
    have v := v_pn_none hz e []
    rw [List.append_nil, List.map_append] at v
    exact v
theorem lend_of {i : Nat} {F : Rho → Ou Bool} {ρ ρ2 : Rho} {bb z : Bool} {ds : List D} (h : ρ[i]? = some (.ow bb ds)) (k : F (lendR i ds ρ) = .ok z ρ2) : lendF i F ρ = .ok z ρ := by
  unfold lendF
  rw [h]
  dsimp only
  rw [k]
theorem v_word_right {w : Wd} (hw : Lw w) (hz : w.length ≤ 14) {n : Nat} {c : Int × Int × Int} (h : Bx n c) (hn : n + 60 < 999) : ∃ c', Bx (n + 30) c' ∧
    ∀ (ρ : Rho) (i : Nat) (b : Bool), ρ[i]? = some (.ow b (bx c)) → foI 2 m_law_word_right i [wt w] ρ = .ok (.im (.bool true)) (ρ.set i (.ow b (bx c'))) := by
  have g : Sgn w := fun p hp => (hw p hp).2.2
  obtain ⟨l, ps, c1, r, rd, b1, eS⟩ := v_law_struck hw (by omega) h (by omega)
  obtain ⟨u, ps2, r2, rd2, q3, eP⟩ := v_strike_pairs (w := w) (by omega)
  obtain ⟨P1, s1⟩ := fit_PP (r.fit g) rd
  obtain ⟨P2', s2⟩ := fit_PP (r2.fit g) rd2
  have l1 := rd_len g r rd
  have l2 := rd_len g r2 rd2
  have a1 : (isrt (ps.map tp)).length = ps.length := by rw [(isrt_perm _).length_eq, List.length_map]
  have a2 : (isrt (ps2.map tp)).length = ps2.length := by rw [(isrt_perm _).length_eq, List.length_map]
  rw [← s1] at eS
  generalize isrt (ps.map tp) = A at *
  generalize isrt (ps2.map tp) = T at *
  have at' : A.length = T.length := by omega
  have ha : A.length ≤ 7 := by omega
  obtain ⟨c2, z6', z7', b2, eW⟩ := l_wr hw hz (pp_inb P1) (by omega) (y2 := .im (wt (strike w))) (y4 := .im (.tuple (T.map pr))) (y5 := .ow false (w.map lp ++ [lp (0, 1)])) 3 0 (n + w.length) c1 .un .un b1 (by omega) fr_un fr_un
  refine ⟨c2, b2.mono (by omega), fun ρ i b hi => ?_⟩
  have g0 : clI 2 m_law_struck 0 (consD (varF 1) nilD) (X12 (.ow true (bx c)) w .un .un .un .un .un .un .un) = .ok (.im (.tuple [wt (strike w), .list (A.map pr)])) (X12 (.ow true (bx c1)) w .un .un .un .un .un .un .un) := cli_of (ds := [wt w]) (ρ' := X12 (.ow true (bx c)) w .un .un .un .un .un .un .un) rfl rfl (eS _ 0 true rfl)
  have z0 : tgS (tupU 2 (consT (nameT 2) (consT (nameT 3) nilT))) (clI 2 m_law_struck 0 (consD (varF 1) nilD)) (X12 (.ow true (bx c)) w .un .un .un .un .un .un .un) = .nx (X12 (.ow true (bx c1)) w (.im (wt (strike w))) (.im (.list (A.map pr))) .un .un .un .un .un) := by
    unfold tgS
    rw [g0]
    rfl
  have k1 : clKF 1 m_strike_pairs [0] 0 1 nilD (consD (varF 1) nilD) (X12 (.ow true (bx c1)) w (.im (wt (strike w))) (.im (.list (A.map pr))) .un .un .un .un .un) = .ok (.im (.tuple (T.map pr))) (X12 (.ow true (bx c1)) w (.im (wt (strike w))) (.im (.list (A.map pr))) .un .un .un .un .un) := clk1 (ρ' := X12 (.ow true (bx c1)) w (.im (wt (strike w))) (.im (.list (A.map pr))) .un .un .un .un .un) rfl (eP _ (isW_wt hw) _)
  have z1 : parS 4 5 (clKF 1 m_strike_pairs [0] 0 1 nilD (consD (varF 1) nilD)) (lcF (seqI (varF 1)) (nameT 9) yesF (callF listD (consF (varF 9) nilF)) [9]) (X12 (.ow true (bx c1)) w (.im (wt (strike w))) (.im (.list (A.map pr))) .un .un .un .un .un) = .nx (X12 (.ow true (bx c1)) w (.im (wt (strike w))) (.im (.list (A.map pr))) (.im (.tuple (T.map pr))) (.ow false (w.map lp)) .un .un .un) := by
    unfold parS
    rw [k1]
    have gl := giv_lc (B := .ow true (bx c1)) (w := w) (y2 := .im (wt (strike w))) (y3 := .im (.list (A.map pr))) (y4 := .un) (y5 := .un) (y6 := .un) (y7 := .un) (y8 := .un) (by omega)
    simp only [nrm, bd, bs, gl]
    rfl
  obtain ⟨x1, hx1⟩ : ∃ x, shw (wt (strike w)) = some x := by
    refine shw_wt ?_ (by have := strike_len w; omega)
    rw [s1]
    intro p hp
    obtain ⟨k, hk, rfl⟩ := List.mem_map.mp hp
    have hkl : k < w.length := List.mem_range.mp ((r.fit g).perm.mem_iff.mp (List.mem_append_left _ hk))
    have : wa w k = w[k] := by unfold wa; simp [List.getD_eq_getElem?_getD, hkl]
    rw [this]
    exact lw_sm hw _ (List.getElem_mem hkl)
  obtain ⟨x2, hx2⟩ : ∃ x, shw (wt T) = some x := shw_wt (pp_sm (by omega) P2') (by omega)
  have z2 : iteS (lendF 5 (orF (tstF (opF neSD (callF reprD (consF (clKF 1 m_strike_out [0] 0 1 nilD (consD (varF 5) nilD)) nilF)) (callF reprD (consF (varF 2) nilF)))) (tstF (opF neSD (callF reprD (consF (clF 1 m_strike_pairs (consD (varF 5) nilD)) nilF)) (callF reprD (consF (varF 4) nilF)))))) (retS (cF (.bool false))) nxS (X12 (.ow true (bx c1)) w (.im (wt (strike w))) (.im (.list (A.map pr))) (.im (.tuple (T.map pr))) (.ow false (w.map lp)) .un .un .un) =
      .nx (X12 (.ow true (bx c1)) w (.im (wt (strike w))) (.im (.list (A.map pr))) (.im (.tuple (T.map pr))) (.ow false (w.map lp)) .un .un .un) := by
    have gw : isW (.list (w.map lp)) w := isW_ll hw
    have e1 := ne_rp (Fa := clKF 1 m_strike_out [0] 0 1 nilD (consD (varF 5) nilD)) (Fb := varF 2) (ρ := X12 .un w (.im (wt (strike w))) (.im (.list (A.map pr))) (.im (.tuple (T.map pr))) (.im (.list (w.map lp))) .un .un .un)
      (clk1 (ρ' := X12 .un w (.im (wt (strike w))) (.im (.list (A.map pr))) (.im (.tuple (T.map pr))) (.im (.list (w.map lp))) .un .un .un) rfl (v_strike_out gw (by rw [sizeLine_eq]; omega) _)) rfl (reprD_of hx1)
    have e2 := ne_rp (Fa := clF 1 m_strike_pairs (consD (varF 5) nilD)) (Fb := varF 4) (ρ := X12 .un w (.im (wt (strike w))) (.im (.list (A.map pr))) (.im (.tuple (T.map pr))) (.im (.list (w.map lp))) .un .un .un)
      (cl_of (ds := [.list (w.map lp)]) (ρ' := X12 .un w (.im (wt (strike w))) (.im (.list (A.map pr))) (.im (.tuple (T.map pr))) (.im (.list (w.map lp))) .un .un .un) rfl (eP _ gw _)) rfl (reprD_of hx2)
    have C := or_ok e1 e2
    exact (ite_f (lend_of (i := 5) (ds := w.map lp) (bb := false) rfl C)).trans (nx_s _)
  have z3 : dropS (mutF apD 5 (consD (lstF (consD (cF (.int 0)) (consD (cF (.int 1)) nilD))) nilD)) (X12 (.ow true (bx c1)) w (.im (wt (strike w))) (.im (.list (A.map pr))) (.im (.tuple (T.map pr))) (.ow false (w.map lp)) .un .un .un) = .nx (X12 (.ow true (bx c1)) w (.im (wt (strike w))) (.im (.list (A.map pr))) (.im (.tuple (T.map pr))) (.ow false (w.map lp ++ [lp (0, 1)])) .un .un .un) := by
    have cc : consD (lstF (consD (cF (.int 0)) (consD (cF (.int 1)) nilD))) nilD (X12 (.ow true (bx c1)) w (.im (wt (strike w))) (.im (.list (A.map pr))) (.im (.tuple (T.map pr))) (.ow false (w.map lp)) .un .un .un) = .ok [lp (0, 1)] (X12 (.ow true (bx c1)) w (.im (wt (strike w))) (.im (.list (A.map pr))) (.im (.tuple (T.map pr))) (.ow false (w.map lp)) .un .un .un) := rfl
    exact drop_of (mut_of (μ := apD) (i := 5) rfl cc (mutO_of (μ := apD) (i := 5) (xs := w.map lp) rfl (apD_ok (by rw [List.length_map, sizeLine_eq]; omega))))
  generalize hG : (Sl.ow false (w.map lp ++ [lp (0, 1)])) = G5 at *
  have kl : tstF (opF neD (callF lenD (consF (varF 4) nilF)) (callF lenD (consF (varF 3) nilF))) (X12 (.ow true (bx c1)) w (.im (wt (strike w))) (.im (.list (A.map pr))) (.im (.tuple (T.map pr))) G5 .un .un .un) = .ok false (X12 (.ow true (bx c1)) w (.im (wt (strike w))) (.im (.list (A.map pr))) (.im (.tuple (T.map pr))) G5 .un .un .un) := by
    have m1 : lenD [.tuple (T.map pr)] = some (.im (.int (T.length : Nat))) := by simp [lenD]
    have m2 : lenD [.list (A.map pr)] = some (.im (.int (T.length : Nat))) := by simp [lenD, at']
    have nn : neD (.int (T.length : Nat)) (.int (T.length : Nat)) = some (.im (.bool false)) := (neD_int _ _).trans (by simp)
    simp only [tstF, opF, callF, consF, varF, nilF, List.getElem?_cons_succ, List.getElem?_cons_zero, bd, frz, call1, drs, dr, Option.map, m1, m2, fin, op2, nn, blO]
  have pR := v_pairs_right (w := w) (ps := T) (by omega) (by omega) (pp_inb P2')
  rw [(lawR_iff g (pp_inb P2')).mpr P2'] at pR
  have z4 : iteS (orF (notF (tstF (unF (isiD "tuple") (varF 4)))) (orF (tstF (opF neD (callF lenD (consF (varF 4) nilF)) (callF lenD (consF (varF 3) nilF)))) (notF (tstF (clF 2 m_law_pairs_right (consD (varF 1) (consD (varF 4) nilD))))))) (retS (cF (.bool false))) nxS (X12 (.ow true (bx c1)) w (.im (wt (strike w))) (.im (.list (A.map pr))) (.im (.tuple (T.map pr))) G5 .un .un .un) = .nx (X12 (.ow true (bx c1)) w (.im (wt (strike w))) (.im (.list (A.map pr))) (.im (.tuple (T.map pr))) G5 .un .un .un) := by
    have i1 : notF (tstF (unF (isiD "tuple") (varF 4))) (X12 (.ow true (bx c1)) w (.im (wt (strike w))) (.im (.list (A.map pr))) (.im (.tuple (T.map pr))) G5 .un .un .un) = .ok false (X12 (.ow true (bx c1)) w (.im (wt (strike w))) (.im (.list (A.map pr))) (.im (.tuple (T.map pr))) G5 .un .un .un) := rfl
    have i3 := not_ok (tst_im (cl_of (n := 2) (m := m_law_pairs_right) (F := consD (varF 1) (consD (varF 4) nilD)) (ρ := X12 (.ow true (bx c1)) w (.im (wt (strike w))) (.im (.list (A.map pr))) (.im (.tuple (T.map pr))) G5 .un .un .un) (ρ' := X12 (.ow true (bx c1)) w (.im (wt (strike w))) (.im (.list (A.map pr))) (.im (.tuple (T.map pr))) G5 .un .un .un) (ds := [wt w, .tuple (T.map pr)]) rfl (pR _)))
    exact (ite_f (or_ok i1 (or_ok kl i3))).trans (nx_s _)
  have hA := hold_t (isW_wt hw) (by omega) P1
  have hL := hold_not (d := wt w) (e := .list (A.map pr)) (isW_wt hw) (by omega) rfl
  have hN := hold_not (d := wt w) (e := .none) (isW_wt hw) (by omega) rfl
  have z5 : iteS (orF (notF (tstF (clKF 2 m_strikes_hold [0, 1] 0 2 nilD (consD (varF 1) (consD (unF tupleD (varF 3)) nilD))))) (orF (tstF (clF 2 m_strikes_hold (consD (varF 1) (consD (varF 3) nilD)))) (tstF (clF 2 m_strikes_hold (consD (varF 1) (consD (cF .none) nilD)))))) (retS (cF (.bool false))) nxS (X12 (.ow true (bx c1)) w (.im (wt (strike w))) (.im (.list (A.map pr))) (.im (.tuple (T.map pr))) G5 .un .un .un) = .nx (X12 (.ow true (bx c1)) w (.im (wt (strike w))) (.im (.list (A.map pr))) (.im (.tuple (T.map pr))) G5 .un .un .un) := by
    have i1 := not_ok (tst_im (clk2 (m := m_strikes_hold) (G := consD (varF 1) (consD (unF tupleD (varF 3)) nilD)) (ρ := X12 (.ow true (bx c1)) w (.im (wt (strike w))) (.im (.list (A.map pr))) (.im (.tuple (T.map pr))) G5 .un .un .un) (ρ' := X12 (.ow true (bx c1)) w (.im (wt (strike w))) (.im (.list (A.map pr))) (.im (.tuple (T.map pr))) G5 .un .un .un) (d := wt w) (d2 := .tuple (A.map pr)) rfl (hA _)))
    have i2 := tst_im (cl_of (n := 2) (m := m_strikes_hold) (F := consD (varF 1) (consD (varF 3) nilD)) (ρ := X12 (.ow true (bx c1)) w (.im (wt (strike w))) (.im (.list (A.map pr))) (.im (.tuple (T.map pr))) G5 .un .un .un) (ρ' := X12 (.ow true (bx c1)) w (.im (wt (strike w))) (.im (.list (A.map pr))) (.im (.tuple (T.map pr))) G5 .un .un .un) (ds := [wt w, .list (A.map pr)]) rfl (hL _))
    have i3 := tst_im (cl_of (n := 2) (m := m_strikes_hold) (F := consD (varF 1) (consD (cF .none) nilD)) (ρ := X12 (.ow true (bx c1)) w (.im (wt (strike w))) (.im (.list (A.map pr))) (.im (.tuple (T.map pr))) G5 .un .un .un) (ρ' := X12 (.ow true (bx c1)) w (.im (wt (strike w))) (.im (.list (A.map pr))) (.im (.tuple (T.map pr))) G5 .un .un .un) (ds := [wt w, .none]) rfl (hN _))
    exact (ite_f (or_ok i1 (or_ok i2 i3))).trans (nx_s _)
  have I3 : rng1I (cF (.int 3)) (X12 (.ow true (bx c1)) w (.im (wt (strike w))) (.im (.list (A.map pr))) (.im (.tuple (T.map pr))) G5 .un .un .un) = .ok (idx 0 3) (X12 (.ow true (bx c1)) w (.im (wt (strike w))) (.im (.list (A.map pr))) (.im (.tuple (T.map pr))) G5 .un .un .un) := rng1_of (n := 3) rfl (by decide)
  refine foI_of (r := [.im (wt w), .im (wt (strike w)), .im (.list (A.map pr)), .im (.tuple (T.map pr)), G5, z6', z7', .im (.tuple [odd1 A, odd2 A, odd3 w A]), .un, .un, .un]) ?_ rfl hi
  unfold G_law_word_right
  show seqS _ (seqS _ (seqS _ (seqS _ (seqS _ (seqS _ (seqS (forS _ (nameT 6) b_wr) _)))))) (X12 (.ow true (bx c)) w .un .un .un .un .un .un .un) = _
  rw [seq_nx z0, seq_nx z1, seq_nx z2, seq_nx z3, seq_nx z4, seq_nx z5, seq_nx ((for_of I3).trans eW)]
  have aL : (A.map pr).length = A.length := List.length_map _
  have bL : (A.map lp).length = A.length := List.length_map _
  have ad : ∀ (xs : List D) (y : D), xs.length ≤ 100 → addD (.tuple xs) (.tuple [y]) = some (.im (.tuple (xs ++ [y]))) := fun xs y hx => by
    have : xs.length + [y].length ≤ sizeLine := by rw [sizeLine_eq, List.length_singleton]; omega
    simp only [addD, this, if_true]
  generalize hV : X12 (.ow true (bx c2)) w (.im (wt (strike w))) (.im (.list (A.map pr))) (.im (.tuple (T.map pr))) G5 z6' z7' .un = V
  have e1 : opF addD (unF tupleD (varF 3)) (tupF (consD (tupF (consD (cF (.int 0)) nilD)) nilD)) V = .ok (.im (odd1 A)) V := by
    subst hV
    show fin (addD (.tuple (A.map pr)) (.tuple [.tuple [.int 0]])) _ = _
    rw [ad _ _ (by omega)]
    rfl
  have lc : lcF (seqI (varF 3)) (nameT 11) yesF (callF listD (consF (varF 11) nilF)) [11] V = .ok (.fr (A.map lp)) V := by
    subst hV
    have I : seqI (varF 3) (X12 (.ow true (bx c2)) w (.im (wt (strike w))) (.im (.list (A.map pr))) (.im (.tuple (T.map pr))) G5 z6' z7' .un) = .ok (A.map pr) (X12 (.ow true (bx c2)) w (.im (wt (strike w))) (.im (.list (A.map pr))) (.im (.tuple (T.map pr))) G5 z6' z7' .un) := rfl
    have gg : (A.map pr).map (fun d => match d with | .tuple xs => PyData.list xs | _ => .none) = A.map lp := by rw [List.map_map]; rfl
    unfold lcF
    rw [I, bd_ok, if_pos (show plainAt _ _ = true from rfl), show wipeR (X12 (.ow true (bx c2)) w (.im (wt (strike w))) (.im (.list (A.map pr))) (.im (.tuple (T.map pr))) G5 z6' z7' .un) [11] = X12 (.ow true (bx c2)) w (.im (wt (strike w))) (.im (.list (A.map pr))) (.im (.tuple (T.map pr))) G5 z6' z7' .un from rfl,
      lcL_map (f := fun d => match d with | .tuple xs => PyData.list xs | _ => .none) (A.map pr) [] (fun d hd => ?_) (by rw [aL, sizeLine_eq]; simp; omega), bd_ok, gg]
    · rfl
    · obtain ⟨p, hp, rfl⟩ := List.mem_map.mp hd
      exact ⟨[.ow true (bx c2), .im (wt w), .im (wt (strike w)), .im (.list (A.map pr)), .im (.tuple (T.map pr)), G5, z6', z7', .un, .un, .un, .im (pr p)], [.ow true (bx c2), .im (wt w), .im (wt (strike w)), .im (.list (A.map pr)), .im (.tuple (T.map pr)), G5, z6', z7', .un, .un, .un, .im (pr p)], rfl, rfl, rfl, rfl⟩
  have e2 : opF addD (unF tupleD (lcF (seqI (varF 3)) (nameT 11) yesF (callF listD (consF (varF 11) nilF)) [11])) (tupF (consD (lstF (consD (cF (.int 0)) (consD (cF (.int 1)) nilD))) nilD)) V = .ok (.im (odd2 A)) V := by
    have u : unF tupleD (lcF (seqI (varF 3)) (nameT 11) yesF (callF listD (consF (varF 11) nilF)) [11]) V = .ok (.im (.tuple (A.map lp))) V := by
      unfold unF
      rw [lc]
      rfl
    generalize unF tupleD (lcF (seqI (varF 3)) (nameT 11) yesF (callF listD (consF (varF 11) nilF)) [11]) = U at *
    unfold opF
    rw [u]
    show fin (addD (.tuple (A.map lp)) (.tuple [lp (0, 1)])) _ = _
    rw [ad _ _ (by omega)]
    rfl
  have e3 : opF addD (unF tupleD (varF 3)) (tupF (consD (tupF (consD (callF lenD (consF (varF 1) nilF)) (consD (opF addD (callF lenD (consF (varF 1) nilF)) (cF (.int 1))) nilD))) nilD)) V = .ok (.im (odd3 w A)) V := by
    subst hV
    have lw' : lenD [wt w] = some (.im (.int (w.length : Nat))) := by simp [lenD, wt]
    have l1' : callF lenD (consF (varF 1) nilF) (X12 (.ow true (bx c2)) w (.im (wt (strike w))) (.im (.list (A.map pr))) (.im (.tuple (T.map pr))) G5 z6' z7' .un) = .ok (.im (.int (w.length : Nat))) (X12 (.ow true (bx c2)) w (.im (wt (strike w))) (.im (.list (A.map pr))) (.im (.tuple (T.map pr))) G5 z6' z7' .un) := by
      show fin (lenD [wt w]) _ = _
      rw [lw']
      rfl
    have l2' : opF addD (callF lenD (consF (varF 1) nilF)) (cF (.int 1)) (X12 (.ow true (bx c2)) w (.im (wt (strike w))) (.im (.list (A.map pr))) (.im (.tuple (T.map pr))) G5 z6' z7' .un) = .ok (.im (.int ((w.length : Int) + 1))) (X12 (.ow true (bx c2)) w (.im (wt (strike w))) (.im (.list (A.map pr))) (.im (.tuple (T.map pr))) G5 z6' z7' .un) := by
      unfold opF
      rw [l1']
      rfl
    have l3 := cons_of l1' (cons_of l2' (show nilD _ = .ok [] _ from rfl))
    have l4 : tupF (consD (tupF (consD (callF lenD (consF (varF 1) nilF)) (consD (opF addD (callF lenD (consF (varF 1) nilF)) (cF (.int 1))) nilD))) nilD) (X12 (.ow true (bx c2)) w (.im (wt (strike w))) (.im (.list (A.map pr))) (.im (.tuple (T.map pr))) G5 z6' z7' .un) = .ok (.im (.tuple [pr ((w.length : Int), (w.length : Int) + 1)])) (X12 (.ow true (bx c2)) w (.im (wt (strike w))) (.im (.list (A.map pr))) (.im (.tuple (T.map pr))) G5 z6' z7' .un) := by
      have l5 : tupF (consD (callF lenD (consF (varF 1) nilF)) (consD (opF addD (callF lenD (consF (varF 1) nilF)) (cF (.int 1))) nilD)) (X12 (.ow true (bx c2)) w (.im (wt (strike w))) (.im (.list (A.map pr))) (.im (.tuple (T.map pr))) G5 z6' z7' .un) = .ok (.im (pr ((w.length : Int), (w.length : Int) + 1))) (X12 (.ow true (bx c2)) w (.im (wt (strike w))) (.im (.list (A.map pr))) (.im (.tuple (T.map pr))) G5 z6' z7' .un) := by
        unfold tupF
        rw [l3]
        rfl
      have l6 := cons_of l5 (show nilD _ = .ok [] _ from rfl)
      unfold tupF at l6 ⊢
      rw [l6]
      rfl
    generalize tupF (consD (tupF (consD (callF lenD (consF (varF 1) nilF)) (consD (opF addD (callF lenD (consF (varF 1) nilF)) (cF (.int 1))) nilD))) nilD) = U at *
    unfold opF
    show bd (frz (U _)) _ = _
    rw [l4]
    show fin (addD (.tuple (A.map pr)) (.tuple [pr ((w.length : Int), (w.length : Int) + 1)])) _ = _
    rw [ad _ _ (by omega)]
    rfl
  have z7 : asgS 8 (tupF (consD (opF addD (unF tupleD (varF 3)) (tupF (consD (tupF (consD (cF (.int 0)) nilD)) nilD))) (consD (opF addD (unF tupleD (lcF (seqI (varF 3)) (nameT 11) yesF (callF listD (consF (varF 11) nilF)) [11])) (tupF (consD (lstF (consD (cF (.int 0)) (consD (cF (.int 1)) nilD))) nilD))) (consD (opF addD (unF tupleD (varF 3)) (tupF (consD (tupF (consD (callF lenD (consF (varF 1) nilF)) (consD (opF addD (callF lenD (consF (varF 1) nilF)) (cF (.int 1))) nilD))) nilD))) nilD)))) V = .nx (X12 (.ow true (bx c2)) w (.im (wt (strike w))) (.im (.list (A.map pr))) (.im (.tuple (T.map pr))) G5 z6' z7' (.im (.tuple [odd1 A, odd2 A, odd3 w A]))) := by
    have cc := cons_of e1 (cons_of e2 (cons_of e3 (show nilD _ = .ok [] _ from rfl)))
    unfold asgS tupF at *
    rw [cc]
    subst hV
    rfl
  have C8 : lcF (seqI (varF 8)) (nameT 10) yesF (clF 2 m_strikes_hold (consD (varF 1) (consD (varF 10) nilD))) [10] (X12 (.ow true (bx c2)) w (.im (wt (strike w))) (.im (.list (A.map pr))) (.im (.tuple (T.map pr))) G5 z6' z7' (.im (.tuple [odd1 A, odd2 A, odd3 w A]))) = .ok (.fr [.bool false, .bool false, .bool false]) (X12 (.ow true (bx c2)) w (.im (wt (strike w))) (.im (.list (A.map pr))) (.im (.tuple (T.map pr))) G5 z6' z7' (.im (.tuple [odd1 A, odd2 A, odd3 w A]))) := by
    have hN3 := fun d hd ρ => odd_no hw (by omega) A (d := d) hd ρ
    generalize odd1 A = o1 at *
    generalize odd2 A = o2 at *
    generalize odd3 w A = o3 at *
    have I : seqI (varF 8) (X12 (.ow true (bx c2)) w (.im (wt (strike w))) (.im (.list (A.map pr))) (.im (.tuple (T.map pr))) G5 z6' z7' (.im (.tuple [o1, o2, o3]))) = .ok [o1, o2, o3] (X12 (.ow true (bx c2)) w (.im (wt (strike w))) (.im (.list (A.map pr))) (.im (.tuple (T.map pr))) G5 z6' z7' (.im (.tuple [o1, o2, o3]))) := rfl
    unfold lcF
    rw [I, bd_ok, if_pos (show plainAt _ _ = true from rfl), show wipeR (X12 (.ow true (bx c2)) w (.im (wt (strike w))) (.im (.list (A.map pr))) (.im (.tuple (T.map pr))) G5 z6' z7' (.im (.tuple [o1, o2, o3]))) [10] = X12 (.ow true (bx c2)) w (.im (wt (strike w))) (.im (.list (A.map pr))) (.im (.tuple (T.map pr))) G5 z6' z7' (.im (.tuple [o1, o2, o3])) from rfl,
      lcL_map (f := fun _ => .bool false) [o1, o2, o3] [] (fun d hd => ?_) (by show 0 + 3 ≤ sizeLine; decide), bd_ok]
    · rfl
    · have hd' : d = o1 ∨ d = o2 ∨ d = o3 := by simpa using hd
      refine ⟨[.ow true (bx c2), .im (wt w), .im (wt (strike w)), .im (.list (A.map pr)), .im (.tuple (T.map pr)), G5, z6', z7', .im (.tuple [o1, o2, o3]), .un, .im d, .un], [.ow true (bx c2), .im (wt w), .im (wt (strike w)), .im (.list (A.map pr)), .im (.tuple (T.map pr)), G5, z6', z7', .im (.tuple [o1, o2, o3]), .un, .im d, .un], rfl, ?_, rfl, rfl⟩
      rw [cl_of (n := 2) (m := m_strikes_hold) (F := consD (varF 1) (consD (varF 10) nilD)) (ρ := [.ow true (bx c2), .im (wt w), .im (wt (strike w)), .im (.list (A.map pr)), .im (.tuple (T.map pr)), G5, z6', z7', .im (.tuple [o1, o2, o3]), .un, .im d, .un]) (ρ' := [.ow true (bx c2), .im (wt w), .im (wt (strike w)), .im (.list (A.map pr)), .im (.tuple (T.map pr)), G5, z6', z7', .im (.tuple [o1, o2, o3]), .un, .im d, .un]) (ds := [wt w, d]) rfl (hN3 d hd' _)]
      rfl
  subst hV
  rw [seq_nx z7]
  have dd : inDl true (.bool true) (.list [.bool false, .bool false, .bool false]) = some (.im (.bool true)) := by
    unfold inDl
    dsimp only
    rw [if_pos ⟨by decide +kernel, by decide +kernel⟩]
    rfl
  unfold retS opF
  show bs (bd (frz (lcF _ _ _ _ _ _)) _) _ = _
  rw [C8]
  show bs (fin (inDl true (.bool true) (.list [.bool false, .bool false, .bool false])) _) _ = _
  rw [dd]
  rfl
end K01
end VL

namespace VL
open PySem PySem.Spec PyProof.Rows L2
open PySem.W (Datum Tup)

namespace K01
abbrev Y13 (ns : List Int) (k : Int) (c : Int × Int × Int) (a3 a4 a5 a6 a7 a8 a9 : Sl) : Rho := [.im (li ns), .im (.int k), .ow false (bx c), a3, a4, a5, a6, a7, a8, a9, .un, .un, .un]
abbrev e_tk : Rho → Ou Rs := clI 2 m_law_take 2 (consD (cF (.int 100)) nilD)
theorem t_h1 {ns : List Int} {k : Int} {n : Nat} {c : Int × Int × Int} (h : Bx n c) (hn : n + 5 < 999) {a3 a4 a5 a6 a7 a8 a9 : Sl} (n3 : np a3 = false) : ∃ ls c', Lt ls ∧ ls.length = 3 ∧ Bx (n + 3) c' ∧
    asgS 3 (lcF (rng1I (cF (.int 3))) (nameT 10) yesF e_tk [10]) (Y13 ns k c a3 a4 a5 a6 a7 a8 a9) = .nx (Y13 ns k c' (.ow false (ls.map .int)) a4 a5 a6 a7 a8 a9) := by
  have b1 := box_ok h (show (0 : Int) < 100 by decide)
  have b2 := box_ok b1 (show (0 : Int) < 100 by decide)
  have b3 := box_ok b2 (show (0 : Int) < 100 by decide)
  have d1 := dig_b c (show (0 : Int) < 100 by decide)
  have d2 := dig_b (box c 100) (show (0 : Int) < 100 by decide)
  have d3 := dig_b (box (box c 100) 100) (show (0 : Int) < 100 by decide)
  have st : ∀ (m : Nat) (c : Int × Int × Int) (j : Int), Bx m c → m < 999 → bd (frz (e_tk [.im (li ns), .im (.int k), .ow false (bx c), a3, a4, a5, a6, a7, a8, a9, .im (.int j), .un, .un])) dat = .ok (.int (dig c 100)) [.im (li ns), .im (.int k), .ow false (bx (box c 100)), a3, a4, a5, a6, a7, a8, a9, .im (.int j), .un, .un] := fun m c j hb hm => by
    have t := @v_take m c hb (by omega) 100 (by decide) (by decide) [.im (li ns), .im (.int k), .ow false (bx c), a3, a4, a5, a6, a7, a8, a9, .im (.int j), .un, .un] 2 false rfl
    have g : e_tk [.im (li ns), .im (.int k), .ow false (bx c), a3, a4, a5, a6, a7, a8, a9, .im (.int j), .un, .un] = .ok (.im (.int (dig c 100))) [.im (li ns), .im (.int k), .ow false (bx (box c 100)), a3, a4, a5, a6, a7, a8, a9, .im (.int j), .un, .un] := cli_of rfl (cons_of (ρ1 := [.im (li ns), .im (.int k), .ow false (bx c), a3, a4, a5, a6, a7, a8, a9, .im (.int j), .un, .un]) rfl rfl) t
    rw [g]
    rfl
  refine ⟨[dig c 100, dig (box c 100) 100, dig (box (box c 100) 100) 100], box (box (box c 100) 100) 100, fun x hx => ?_, rfl, b3.mono (by omega), ?_⟩
  · simp only [List.mem_cons, List.not_mem_nil, or_false] at hx
    rcases hx with rfl | rfl | rfl <;> assumption
  · have I : rng1I (cF (.int 3)) (Y13 ns k c a3 a4 a5 a6 a7 a8 a9) = .ok [.int 0, .int 1, .int 2] (Y13 ns k c a3 a4 a5 a6 a7 a8 a9) := rng1_of (n := 3) rfl (by decide)
    have L : lcF (rng1I (cF (.int 3))) (nameT 10) yesF e_tk [10] (Y13 ns k c a3 a4 a5 a6 a7 a8 a9) = .ok (.fr [.int (dig c 100), .int (dig (box c 100) 100), .int (dig (box (box c 100) 100) 100)]) (Y13 ns k (box (box (box c 100) 100) 100) a3 a4 a5 a6 a7 a8 a9) := by
      unfold lcF
      rw [I, bd_ok, if_pos (show plainAt _ _ = true from rfl), show wipeR (Y13 ns k c a3 a4 a5 a6 a7 a8 a9) [10] = Y13 ns k c a3 a4 a5 a6 a7 a8 a9 from rfl,
        lcL_step (ρ' := Y13 ns k (box c 100) a3 a4 a5 a6 a7 a8 a9) (show nameT 10 (.int 0) (Y13 ns k c a3 a4 a5 a6 a7 a8 a9) = some _ from rfl) (st n c 0 h (by omega)) (by decide) rfl rfl,
        lcL_step (ρ' := Y13 ns k (box (box c 100) 100) a3 a4 a5 a6 a7 a8 a9) (show nameT 10 (.int 1) (Y13 ns k (box c 100) a3 a4 a5 a6 a7 a8 a9) = some _ from rfl) (st (n + 1) _ 1 b1 (by omega)) (by show 1 < sizeLine; decide) rfl rfl,
        lcL_step (ρ' := Y13 ns k (box (box (box c 100) 100) 100) a3 a4 a5 a6 a7 a8 a9) (show nameT 10 (.int 2) (Y13 ns k (box (box c 100) 100) a3 a4 a5 a6 a7 a8 a9) = some _ from rfl) (st (n + 1 + 1) _ 2 b2 (by omega)) (by show 2 < sizeLine; decide) rfl rfl]
      rfl
    unfold asgS
    rw [L]
    show setN 3 (.fr _) _ = _
    unfold setN
    rw [if_neg (by simp [pin_s, pin_0, n3])]
    rfl
theorem t_h2 {ns : List Int} {k : Int} {n : Nat} {c : Int × Int × Int} (h : Bx n c) (hn : n + 100 < 999) {ls : List Int} (hl : Lt ls) (h3 : ls.length = 3) {a4 a5 a6 a7 a8 a9 : Sl} (n4 : np a4 = false) (n5 : np a5 = false) : ∃ w o c', Lw w ∧ w.length ≤ 14 ∧ Lw o ∧ o.length ≤ 14 ∧ Bx (n + 86) c' ∧
    parS 4 5 (clI 2 m_law_word 2 (consD (varF 3) nilD)) (clI 2 m_law_word 2 (consD (varF 3) nilD)) (Y13 ns k c (.ow false (ls.map .int)) a4 a5 a6 a7 a8 a9) = .nx (Y13 ns k c' (.im (.list (ls.map .int))) (.im (wt w)) (.im (wt o)) a6 a7 a8 a9) := by
  have ne : ls ≠ [] := fun e => by rw [e] at h3; cases h3
  obtain ⟨w, c1, w1, w2, b1, e1⟩ := v_law_word h (by omega) ne (by omega) hl
  obtain ⟨o, c2, o1, o2, b2, e2⟩ := v_law_word b1 (by omega) ne (by omega) hl
  refine ⟨w, o, c2, w1, w2, o1, o2, b2.mono (by omega), ?_⟩
  have g1 : clI 2 m_law_word 2 (consD (varF 3) nilD) (Y13 ns k c (.ow false (ls.map .int)) a4 a5 a6 a7 a8 a9) = .ok (.im (wt w)) (Y13 ns k c1 (.im (.list (ls.map .int))) a4 a5 a6 a7 a8 a9) := cli_of (ds := [.list (ls.map .int)]) (ρ' := Y13 ns k c (.im (.list (ls.map .int))) a4 a5 a6 a7 a8 a9) rfl rfl (e1 _ 2 false rfl)
  have g2 : clI 2 m_law_word 2 (consD (varF 3) nilD) (Y13 ns k c1 (.im (.list (ls.map .int))) a4 a5 a6 a7 a8 a9) = .ok (.im (wt o)) (Y13 ns k c2 (.im (.list (ls.map .int))) a4 a5 a6 a7 a8 a9) := cli_of (ds := [.list (ls.map .int)]) (ρ' := Y13 ns k c1 (.im (.list (ls.map .int))) a4 a5 a6 a7 a8 a9) rfl rfl (e2 _ 2 false rfl)
  unfold parS
  rw [g1]
  simp only [nrm, bd, bs, g2]
  unfold two
  rw [if_neg (by simp [pin_s, pin_0, n4, n5])]
  rfl
theorem t_h3 {ns : List Int} {k : Int} {n : Nat} {c : Int × Int × Int} (h : Bx n c) (hn : n + 150 < 999) {w o : Wd} (hw : Lw w) (wz : w.length ≤ 14) (ho : Lw o) (oz : o.length ≤ 14) {a3 a6 a7 a8 a9 : Sl} : ∃ c', Bx (n + 62) c' ∧
    iteS (orF (notF (tstF (clI 2 m_law_word_right 2 (consD (varF 4) nilD)))) (orF (notF (tstF (clI 2 m_law_word_right 2 (consD (varF 5) nilD)))) (notF (tstF (clI 2 m_law_refusals_right 2 (consD (varF 4) nilD)))))) (retS (cF (.bool false))) nxS (Y13 ns k c a3 (.im (wt w)) (.im (wt o)) a6 a7 a8 a9) = .nx (Y13 ns k c' a3 (.im (wt w)) (.im (wt o)) a6 a7 a8 a9) := by
  obtain ⟨c1, b1, e1⟩ := v_word_right hw wz h (by omega)
  obtain ⟨c2, b2, e2⟩ := v_word_right ho oz b1 (by omega)
  obtain ⟨c3, b3, e3⟩ := v_rr b2 (by omega) wz
  refine ⟨c3, b3.mono (by omega), ?_⟩
  have g1 := not_ok (tst_im (cli_of (n := 2) (m := m_law_word_right) (i := 2) (F := consD (varF 4) nilD) (ρ := Y13 ns k c a3 (.im (wt w)) (.im (wt o)) a6 a7 a8 a9) (ds := [wt w]) (ρ' := Y13 ns k c a3 (.im (wt w)) (.im (wt o)) a6 a7 a8 a9) rfl rfl (e1 _ 2 false rfl)))
  have g2 := not_ok (tst_im (cli_of (n := 2) (m := m_law_word_right) (i := 2) (F := consD (varF 5) nilD) (ρ := Y13 ns k c1 a3 (.im (wt w)) (.im (wt o)) a6 a7 a8 a9) (ds := [wt o]) (ρ' := Y13 ns k c1 a3 (.im (wt w)) (.im (wt o)) a6 a7 a8 a9) rfl rfl (e2 _ 2 false rfl)))
  have g3 := not_ok (tst_im (cli_of (n := 2) (m := m_law_refusals_right) (i := 2) (F := consD (varF 4) nilD) (ρ := Y13 ns k c2 a3 (.im (wt w)) (.im (wt o)) a6 a7 a8 a9) (ds := [wt w]) (ρ' := Y13 ns k c2 a3 (.im (wt w)) (.im (wt o)) a6 a7 a8 a9) rfl rfl (e3 _ 2 false rfl)))
  refine (ite_f (ρ' := Y13 ns k c3 a3 (.im (wt w)) (.im (wt o)) a6 a7 a8 a9) ?_).trans (nx_s _)
  unfold orF
  rw [g1, bd_ok, if_neg (by decide)]
  show (bd (notF _ (Y13 ns k c1 a3 (.im (wt w)) (.im (wt o)) a6 a7 a8 a9)) _) = _
  rw [g2, bd_ok, if_neg (by decide)]
  exact g3
end K01
end VL

namespace VL
open PySem PySem.Spec PyProof.Rows L2
open PySem.W (Datum Tup)

namespace K01
abbrev back_lc : Rho → Ou Rs := lcF (seqI (stpF (varF 4) (parO (unF negD (cF (.int 1)))))) (tupU 2 (consT (nameT 11) (consT (nameT 12) nilT))) yesF (tupF (consD (varF 11) (consD (opF subD (cF (.int 0)) (varF 12)) nilD))) [11, 12]
theorem inv_eq (w : Wd) : w.reverse.map (fun p => (p.1, 0 - p.2)) = inv w := by
  unfold inv
  rw [List.map_reverse]
  congr 1
  exact List.map_congr_left fun p _ => by rw [Int.zero_sub]
theorem t_h4 {ns : List Int} {k : Int} {c : Int × Int × Int} {w o : Wd} (wz : w.length ≤ 900) {a3 a6 a7 a8 a9 : Sl} (n6 : np a6 = false) : asgS 6 (unF tupleD back_lc) (Y13 ns k c a3 (.im (wt w)) (.im (wt o)) a6 a7 a8 a9) = .nx (Y13 ns k c a3 (.im (wt w)) (.im (wt o)) (.im (wt (inv w))) a7 a8 a9) := by
  have sp : stpD (wt w) (some (-1)) = some (.im (.tuple (w.reverse.map pr))) := by simp [stpD, wt, List.map_reverse]
  have I : seqI (stpF (varF 4) (parO (unF negD (cF (.int 1))))) (Y13 ns k c a3 (.im (wt w)) (.im (wt o)) a6 a7 a8 a9) = .ok (w.reverse.map pr) (Y13 ns k c a3 (.im (wt w)) (.im (wt o)) a6 a7 a8 a9) := by
    simp [seqI, stpF, parO, intO, stpO, retS, seqS, asgS, clF, clI, clKF, isOw, consD, consF, callF, call1, drs, opF, op2, unF, op1, varF, cF, nilD, nilF, bd, bs, frz, dr, fin, dat, setN, pin_0, pin_s, np_im, np_un, np_ow, iteS, tstF, blO, nxS, dropS, mutF, mutO, thaw, tupF, lstF, tupD, lstD, andF, orF, notF, andV, orV, notV, ifF, tgS, tupU, consT, nameT, nilT, parS, slF, noO, parO, intO, slO, isnD, unS, out, retV, negD, subD, intD, unF, op1, truF, truO, tru, parN, consL, addL, nilL, parM, setL, slOf, nrm, two, ltD, gtD, leD, geD, Y13, sp, itD]
  have gg : (w.reverse.map pr).map (fun d => match d with | .tuple [.int a, .int b] => pr (a, 0 - b) | _ => .none) = (inv w).map pr := by rw [← inv_eq, List.map_map, List.map_map]; rfl
  have L : back_lc (Y13 ns k c a3 (.im (wt w)) (.im (wt o)) a6 a7 a8 a9) = .ok (.fr ((inv w).map pr)) (Y13 ns k c a3 (.im (wt w)) (.im (wt o)) a6 a7 a8 a9) := by
    unfold back_lc lcF
    rw [I, bd_ok, if_pos (show plainAt _ _ = true from rfl), show wipeR (Y13 ns k c a3 (.im (wt w)) (.im (wt o)) a6 a7 a8 a9) [11, 12] = Y13 ns k c a3 (.im (wt w)) (.im (wt o)) a6 a7 a8 a9 from rfl,
      lcL_map (f := fun d => match d with | .tuple [.int a, .int b] => pr (a, 0 - b) | _ => .none) (w.reverse.map pr) [] (fun d hd => ?_) (by simp [sizeLine_eq]; omega), bd_ok, gg]
    · rfl
    · obtain ⟨p, hp, rfl⟩ := List.mem_map.mp hd
      exact ⟨[.im (li ns), .im (.int k), .ow false (bx c), a3, .im (wt w), .im (wt o), a6, a7, a8, a9, .un, .im (.int p.1), .im (.int p.2)], [.im (li ns), .im (.int k), .ow false (bx c), a3, .im (wt w), .im (wt o), a6, a7, a8, a9, .un, .im (.int p.1), .im (.int p.2)], rfl, rfl, rfl, rfl⟩
  unfold asgS unF
  rw [L]
  show setN 6 (.im (wt (inv w))) _ = _
  unfold setN
  rw [if_neg (by simp [pin_s, pin_0, n6])]
  rfl
theorem inv_lw {w : Wd} (h : Lw w) : Lw (inv w) := fun p hp => by
  unfold inv at hp
  rw [List.mem_reverse, List.mem_map] at hp
  obtain ⟨q, hq, rfl⟩ := hp
  have := h q hq
  exact ⟨this.1, this.2.1, by show -q.2 = 1 ∨ -q.2 = -1; omega⟩
theorem inv_len (w : Wd) : (inv w).length = w.length := by simp [inv]
theorem strike_inv {w : Wd} (h : Lw w) : strike (w ++ inv w) = [] := by
  rw [strike_eqv (eqv_inv (w := w) fun p hp => (h p hp).2.2)]
  rfl
theorem t_h5 {ns : List Int} {k : Int} {c : Int × Int × Int} {w o : Wd} (hw : Lw w) (wz : w.length ≤ 14) {a3 a7 a8 a9 : Sl} :
    iteS (orF (tstF (opF neSD (callF reprD (consF (clKF 1 m_undo_word [0] 0 1 nilD (consD (callF listD (consF (varF 4) nilF)) nilD)) nilF)) (callF reprD (consF (varF 6) nilF)))) (tstF (opF neD (clKF 2 m_join_words [0, 1] 0 2 nilD (consD (varF 4) (consD (varF 6) nilD))) (tupF nilD)))) (retS (cF (.bool false))) nxS (Y13 ns k c a3 (.im (wt w)) (.im (wt o)) (.im (wt (inv w))) a7 a8 a9) = .nx (Y13 ns k c a3 (.im (wt w)) (.im (wt o)) (.im (wt (inv w))) a7 a8 a9) := by
  obtain ⟨x, hx⟩ : ∃ x, shw (wt (inv w)) = some x := shw_wt (lw_sm (inv_lw hw)) (by rw [inv_len]; omega)
  have e1 := ne_rp (Fa := clKF 1 m_undo_word [0] 0 1 nilD (consD (callF listD (consF (varF 4) nilF)) nilD)) (Fb := varF 6) (ρ := Y13 ns k c a3 (.im (wt w)) (.im (wt o)) (.im (wt (inv w))) a7 a8 a9)
    (clk1 (d := wl w) (ρ' := Y13 ns k c a3 (.im (wt w)) (.im (wt o)) (.im (wt (inv w))) a7 a8 a9) rfl (v_undo_word (isW_wl hw) (by rw [sizeLine_eq]; omega) _)) rfl (reprD_of hx)
  have j := v_join_words (isW_wt hw) (isW_wt (inv_lw hw)) (by rw [inv_len, sizeLine_eq]; omega)
  rw [strike_inv hw] at j
  have e2 : tstF (opF neD (clKF 2 m_join_words [0, 1] 0 2 nilD (consD (varF 4) (consD (varF 6) nilD))) (tupF nilD)) (Y13 ns k c a3 (.im (wt w)) (.im (wt o)) (.im (wt (inv w))) a7 a8 a9) = .ok false (Y13 ns k c a3 (.im (wt w)) (.im (wt o)) (.im (wt (inv w))) a7 a8 a9) := by
    have g := clk2 (m := m_join_words) (G := consD (varF 4) (consD (varF 6) nilD)) (ρ := Y13 ns k c a3 (.im (wt w)) (.im (wt o)) (.im (wt (inv w))) a7 a8 a9) (ρ' := Y13 ns k c a3 (.im (wt w)) (.im (wt o)) (.im (wt (inv w))) a7 a8 a9) (d := wt w) (d2 := wt (inv w)) rfl (j _)
    have nn : neD (wt []) (.tuple []) = some (.im (.bool false)) := (neD_wt [] []).trans (by simp)
    unfold tstF opF
    rw [g]
    show bd (fin (neD (wt []) (.tuple [])) _) _ = _
    rw [nn]
    rfl
  exact (ite_f (or_ok e1 e2)).trans (nx_s _)
end K01
end VL

namespace VL
open PySem PySem.Spec PyProof.Rows L2
open PySem.W (Datum Tup)

namespace K01
theorem lw_app {a b : Wd} (h : Lw a) (k : Lw b) : Lw (a ++ b) := fun p hp => (List.mem_append.mp hp).elim (h p) (k p)
theorem struck_at {v : Wd} (hw : Lw v) (hz : v.length ≤ 100) {n : Nat} {c : Int × Int × Int} (h : Bx n c) (hn : n + v.length + 3 < 999) : ∃ c' D2, Bx (n + v.length) c' ∧ ∀ (ρ : Rho) (i : Nat) (b : Bool), ρ[i]? = some (.ow b (bx c)) → foI 2 m_law_struck i [wt v] ρ = .ok (.im (.tuple [wt (strike v), D2])) (ρ.set i (.ow b (bx c'))) := by
  obtain ⟨l, ps, c', r, rd, b, e⟩ := v_law_struck hw hz h hn
  have s := (fit_PP (r.fit fun p hp => (hw p hp).2.2) rd).2
  rw [← s] at e
  exact ⟨c', _, b, e⟩
theorem strike_lw {v : Wd} (hw : Lw v) (hz : v.length ≤ 900) : Lw (strike v) := by
  obtain ⟨u, ps2, r2, rd2, q3, _⟩ := v_strike_pairs (w := v) hz
  have F := r2.fit fun p hp => (hw p hp).2.2
  have s := (fit_PP F rd2).2
  rw [s]
  intro p hp
  obtain ⟨k, hk, rfl⟩ := List.mem_map.mp hp
  have hkl : k < v.length := List.mem_range.mp (F.perm.mem_iff.mp (List.mem_append_left _ hk))
  have : wa v k = v[k] := by unfold wa; simp [List.getD_eq_getElem?_getD, hkl]
  rw [this]
  exact hw _ (List.getElem_mem hkl)
theorem op_of {f : D → D → Option Rs} {Fa Fb : Rho → Ou Rs} {ρ ρ1 ρ2 : Rho} {d e z : D} (h : Fa ρ = .ok (.im d) ρ1) (k : Fb ρ1 = .ok (.im e) ρ2) (q : f d e = some (.im z)) : opF f Fa Fb ρ = .ok (.im z) ρ2 := by
  unfold opF
  rw [h]
  show bd (frz (Fb ρ1)) _ = _
  rw [k]
  show fin (f d e) ρ2 = _
  rw [q]
  rfl
theorem ne_rp2 {Fa Fb : Rho → Ou Rs} {ρ ρ' : Rho} {d : D} {x : Str} (h : Fa ρ = .ok (.im d) ρ) (k : Fb ρ = .ok (.im d) ρ') (hx : reprD [d] = some (.im (.str x))) : tstF (opF neSD (callF reprD (consF Fa nilF)) (callF reprD (consF Fb nilF))) ρ = .ok false ρ' := by
  have nn := neSD_same x
  simp only [tstF, opF, callF, consF, h, k, nilF, bd, frz, call1, drs, dr, Option.map, hx, fin, op2, nn, blO]
theorem or_ok2 {F G : Rho → Ou Bool} {ρ ρ' : Rho} {b : Bool} (h : F ρ = .ok false ρ) (k : G ρ = .ok b ρ') : orF F G ρ = .ok b ρ' := by
  unfold orF
  rw [h, bd_ok, if_neg Bool.false_ne_true]
  exact k
theorem ix_fst (X Y : D) : ixD (.tuple [X, Y]) (.int 0) = some (.im X) := ixD_0 _ _
theorem add45 {ns : List Int} {k : Int} {c : Int × Int × Int} {w o : Wd} (hz : w.length + o.length ≤ 100) {a3 a6 a7 a8 a9 : Sl} : consD (opF addD (varF 4) (varF 5)) nilD (Y13 ns k c a3 (.im (wt w)) (.im (wt o)) a6 a7 a8 a9) = .ok [wt (w ++ o)] (Y13 ns k c a3 (.im (wt w)) (.im (wt o)) a6 a7 a8 a9) := by
  refine cons_of (ρ1 := Y13 ns k c a3 (.im (wt w)) (.im (wt o)) a6 a7 a8 a9) ?_ rfl
  show fin (addD (wt w) (wt o)) _ = _
  rw [addD_wt w o (by rw [sizeLine_eq]; omega)]
  rfl
theorem t_h6 {ns : List Int} {k : Int} {n : Nat} {c : Int × Int × Int} (h : Bx n c) (hn : n + 50 < 999) {w o : Wd} (hw : Lw w) (wz : w.length ≤ 14) (ho : Lw o) (oz : o.length ≤ 14) {a3 a6 a7 a8 a9 : Sl} (n7 : np a7 = false) : ∃ c', Bx (n + 28) c' ∧
    asgS 7 (opF ixD (clI 2 m_law_struck 2 (consD (opF addD (varF 4) (varF 5)) nilD)) (cF (.int 0))) (Y13 ns k c a3 (.im (wt w)) (.im (wt o)) a6 a7 a8 a9) = .nx (Y13 ns k c' a3 (.im (wt w)) (.im (wt o)) a6 (.im (wt (strike (w ++ o)))) a8 a9) := by
  have lz : (w ++ o).length = w.length + o.length := List.length_append
  obtain ⟨c', D2, b, e⟩ := struck_at (lw_app hw ho) (by omega) h (by omega)
  refine ⟨c', b.mono (by omega), ?_⟩
  have g : clI 2 m_law_struck 2 (consD (opF addD (varF 4) (varF 5)) nilD) (Y13 ns k c a3 (.im (wt w)) (.im (wt o)) a6 a7 a8 a9) = .ok (.im (.tuple [wt (strike (w ++ o)), D2])) (Y13 ns k c' a3 (.im (wt w)) (.im (wt o)) a6 a7 a8 a9) := cli_of rfl (add45 (by omega)) (e _ 2 false rfl)
  have q : opF ixD (clI 2 m_law_struck 2 (consD (opF addD (varF 4) (varF 5)) nilD)) (cF (.int 0)) (Y13 ns k c a3 (.im (wt w)) (.im (wt o)) a6 a7 a8 a9) = .ok (.im (wt (strike (w ++ o)))) (Y13 ns k c' a3 (.im (wt w)) (.im (wt o)) a6 a7 a8 a9) := op_of g (show cF (.int 0) _ = _ from rfl) (ix_fst _ _)
  unfold asgS
  rw [q]
  show setN 7 (.im _) _ = _
  unfold setN
  rw [if_neg (by simp [pin_s, pin_0, n7])]
  rfl
theorem t_h7 {ns : List Int} {k : Int} {n : Nat} {c : Int × Int × Int} (h : Bx n c) (hn : n + 50 < 999) {w o : Wd} (hw : Lw w) (wz : w.length ≤ 14) (ho : Lw o) (oz : o.length ≤ 14) {a3 a6 a8 a9 : Sl} : ∃ c', Bx (n + 14) c' ∧
    iteS (orF (tstF (opF neSD (callF reprD (consF (clKF 2 m_join_words [0, 1] 0 2 nilD (consD (varF 4) (consD (callF listD (consF (varF 5) nilF)) nilD))) nilF)) (callF reprD (consF (varF 7) nilF)))) (tstF (opF neSD (callF reprD (consF (clF 1 m_strike_out (consD (varF 4) nilD)) nilF)) (callF reprD (consF (opF ixD (clI 2 m_law_struck 2 (consD (varF 4) nilD)) (cF (.int 0))) nilF))))) (retS (cF (.bool false))) nxS (Y13 ns k c a3 (.im (wt w)) (.im (wt o)) a6 (.im (wt (strike (w ++ o)))) a8 a9) = .nx (Y13 ns k c' a3 (.im (wt w)) (.im (wt o)) a6 (.im (wt (strike (w ++ o)))) a8 a9) := by
  have lz : (w ++ o).length = w.length + o.length := List.length_append
  obtain ⟨x, hx⟩ : ∃ x, shw (wt (strike (w ++ o))) = some x := shw_wt (lw_sm (strike_lw (lw_app hw ho) (by omega))) (by have := strike_len (w ++ o); omega)
  obtain ⟨x2, hx2⟩ : ∃ x, shw (wt (strike w)) = some x := shw_wt (lw_sm (strike_lw hw (by omega))) (by have := strike_len w; omega)
  obtain ⟨c', D2, b, e⟩ := struck_at hw (by omega) h (by omega)
  refine ⟨c', b.mono (by omega), ?_⟩
  have j := v_join_words (isW_wt hw) (isW_wl ho) (by rw [sizeLine_eq]; omega)
  have so := v_strike_out (isW_wt hw) (by rw [sizeLine_eq]; omega)
  generalize strike (w ++ o) = S at *
  have e1 := ne_rp (Fa := clKF 2 m_join_words [0, 1] 0 2 nilD (consD (varF 4) (consD (callF listD (consF (varF 5) nilF)) nilD))) (Fb := varF 7) (ρ := Y13 ns k c a3 (.im (wt w)) (.im (wt o)) a6 (.im (wt S)) a8 a9)
    (clk2 (d := wt w) (d2 := wl o) (ρ' := Y13 ns k c a3 (.im (wt w)) (.im (wt o)) a6 (.im (wt S)) a8 a9) rfl (j _)) rfl (reprD_of hx)
  have g : clI 2 m_law_struck 2 (consD (varF 4) nilD) (Y13 ns k c a3 (.im (wt w)) (.im (wt o)) a6 (.im (wt S)) a8 a9) = .ok (.im (.tuple [wt (strike w), D2])) (Y13 ns k c' a3 (.im (wt w)) (.im (wt o)) a6 (.im (wt S)) a8 a9) := cli_of (ds := [wt w]) (ρ' := Y13 ns k c a3 (.im (wt w)) (.im (wt o)) a6 (.im (wt S)) a8 a9) rfl rfl (e _ 2 false rfl)
  have e2 := ne_rp2 (Fa := clF 1 m_strike_out (consD (varF 4) nilD)) (Fb := opF ixD (clI 2 m_law_struck 2 (consD (varF 4) nilD)) (cF (.int 0))) (ρ := Y13 ns k c a3 (.im (wt w)) (.im (wt o)) a6 (.im (wt S)) a8 a9) (ρ' := Y13 ns k c' a3 (.im (wt w)) (.im (wt o)) a6 (.im (wt S)) a8 a9)
    (cl_of (ds := [wt w]) (ρ' := Y13 ns k c a3 (.im (wt w)) (.im (wt o)) a6 (.im (wt S)) a8 a9) rfl (so _)) (op_of g (show cF (.int 0) _ = _ from rfl) (ix_fst _ _)) (reprD_of hx2)
  exact (ite_f (or_ok2 e1 e2)).trans (nx_s _)
def plainL (x : Wd) : List Int := (x.filter fun p => decide (p.2 = 1)).map (·.1)
theorem t_h8 {ns : List Int} {k : Int} {c : Int × Int × Int} {x : Wd} (xz : x.length ≤ 900) {a3 a4 a5 a6 a8 a9 : Sl} (n8 : np a8 = false) : asgS 8 (lcF (seqI (varF 7)) (tupU 2 (consT (nameT 11) (consT (nameT 12) nilT))) (tstF (opF eqD (varF 12) (cF (.int 1)))) (varF 11) [11, 12]) (Y13 ns k c a3 a4 a5 a6 (.im (wt x)) a8 a9) = .nx (Y13 ns k c a3 a4 a5 a6 (.im (wt x)) (.ow false ((plainL x).map .int)) a9) := by
  have L : lcF (seqI (varF 7)) (tupU 2 (consT (nameT 11) (consT (nameT 12) nilT))) (tstF (opF eqD (varF 12) (cF (.int 1)))) (varF 11) [11, 12] (Y13 ns k c a3 a4 a5 a6 (.im (wt x)) a8 a9) = .ok (.fr ((plainL x).map .int)) (Y13 ns k c a3 a4 a5 a6 (.im (wt x)) a8 a9) := by
    have I : seqI (varF 7) (Y13 ns k c a3 a4 a5 a6 (.im (wt x)) a8 a9) = .ok (x.map pr) (Y13 ns k c a3 a4 a5 a6 (.im (wt x)) a8 a9) := rfl
    unfold lcF
    rw [I, bd_ok, if_pos (show plainAt _ _ = true from rfl), show wipeR (Y13 ns k c a3 a4 a5 a6 (.im (wt x)) a8 a9) [11, 12] = Y13 ns k c a3 a4 a5 a6 (.im (wt x)) a8 a9 from rfl,
      lcL_fil (f := fun p : P2 => .int p.1) (q := fun p : P2 => decide (p.2 = 1)) x [] (fun p hp => ?_) (by simp [sizeLine_eq]; omega), bd_ok]
    · unfold plainL
      rw [List.map_map]
      rfl
    · refine ⟨[.im (li ns), .im (.int k), .ow false (bx c), a3, a4, a5, a6, .im (wt x), a8, a9, .un, .im (.int p.1), .im (.int p.2)], rfl, ?_, rfl, rfl, rfl⟩
      have e := eqD_int p.2 1
      generalize decide (p.2 = 1) = z at *
      exact tst_im (op_of (show varF 12 _ = .ok (.im (.int p.2)) _ from rfl) (show cF (.int 1) _ = .ok (.im (.int 1)) _ from rfl) e)
  unfold asgS
  rw [L]
  show setN 8 (.fr _) _ = _
  unfold setN
  rw [if_neg (by simp [pin_s, pin_0, n8])]
  rfl
theorem plain_tx {x : Wd} (g : Sgn x) : (if (plainL x).length = x.length then ti (plainL x) else .none) = txO x := by
  unfold txO plainL
  rw [List.length_map]
  by_cases h : ∀ p ∈ x, p.2 = 1
  · have e : (x.filter fun p => decide (p.2 = 1)) = x := List.filter_eq_self.mpr fun p hp => decide_eq_true (h p hp)
    rw [e, if_pos rfl, if_neg]
    intro z
    obtain ⟨p, hp, e2⟩ := List.any_eq_true.mp z
    have := h p hp
    have := of_decide_eq_true e2
    omega
  · have h2 : ¬ (x.filter fun p => decide (p.2 = 1)).length = x.length := fun z => h fun p hp => by
      have := List.length_filter_eq_length_iff.mp z p hp
      exact of_decide_eq_true this
    rw [if_neg h2, if_pos]
    refine List.any_eq_true.mpr ?_
    refine Classical.byContradiction fun z => h fun p hp => ?_
    have s := g p hp
    refine Classical.byContradiction fun y => z ⟨p, hp, decide_eq_true (by omega)⟩
theorem t_h9 {ns : List Int} {k : Int} {c : Int × Int × Int} {x : Wd} (g : Sgn x) {a3 a4 a5 a6 a9 : Sl} (n9 : np a9 = false) : asgS 9 (ifF (tstF (opF eqD (callF lenD (consF (varF 8) nilF)) (callF lenD (consF (varF 7) nilF)))) (unF tupleD (varF 8)) (cF .none)) (Y13 ns k c a3 a4 a5 a6 (.im (wt x)) (.ow false ((plainL x).map .int)) a9) = .nx (Y13 ns k c a3 a4 a5 a6 (.im (wt x)) (.ow false ((plainL x).map .int)) (.im (txO x))) := by
  have l8 : lenD [.list ((plainL x).map .int)] = some (.im (.int ((plainL x).length : Nat))) := by simp [lenD]
  have l7 : lenD [wt x] = some (.im (.int (x.length : Nat))) := by simp [lenD, wt]
  have e := eqD_int ((plainL x).length : Nat) (x.length : Nat)
  have d : (decide (((plainL x).length : Int) = (x.length : Int))) = decide ((plainL x).length = x.length) := decide_eq_decide.mpr (by omega)
  rw [d] at e
  have C : tstF (opF eqD (callF lenD (consF (varF 8) nilF)) (callF lenD (consF (varF 7) nilF))) (Y13 ns k c a3 a4 a5 a6 (.im (wt x)) (.ow false ((plainL x).map .int)) a9) = .ok (decide ((plainL x).length = x.length)) (Y13 ns k c a3 a4 a5 a6 (.im (wt x)) (.ow false ((plainL x).map .int)) a9) := by
    refine tst_im (op_of (ρ1 := Y13 ns k c a3 a4 a5 a6 (.im (wt x)) (.ow false ((plainL x).map .int)) a9) (d := .int ((plainL x).length : Nat)) (e := .int (x.length : Nat)) ?_ ?_ e)
    · show fin (lenD [.list ((plainL x).map .int)]) _ = _
      rw [l8]
      rfl
    · show fin (lenD [wt x]) _ = _
      rw [l7]
      rfl
  rw [← plain_tx g]
  unfold asgS ifF
  by_cases h : (plainL x).length = x.length
  · rw [decide_eq_true h] at C
    rw [C, if_pos h]
    show setN 9 (.im (ti (plainL x))) _ = _
    unfold setN
    rw [if_neg (by simp [pin_s, pin_0, n9])]
    rfl
  · rw [decide_eq_false h] at C
    rw [C, if_neg h]
    show setN 9 (.im .none) _ = _
    unfold setN
    rw [if_neg (by simp [pin_s, pin_0, n9])]
    rfl
end K01
end VL

namespace VL
open PySem PySem.Spec PyProof.Rows L2
open PySem.W (Datum Tup)

namespace K01
theorem pl_lw {xs : List Int} (h : Lt xs) : Lw (pl xs) := fun p hp => by
  unfold pl at hp
  obtain ⟨x, hx, rfl⟩ := List.mem_map.mp hp
  exact ⟨(h x hx).1, (h x hx).2, .inl rfl⟩
theorem strike_pl (xs : List Int) : strike (pl xs) = pl xs := by
  have := run_same 1 xs [] (fun q r x ys e _ => by cases e)
  unfold strike
  show ((sg 1 xs).foldl push []).reverse = pl xs
  rw [this, List.append_nil, List.reverse_reverse]
  rfl
theorem tx_pl (xs : List Int) : txO (pl xs) = ti xs := by
  unfold txO
  rw [if_neg]
  · unfold pl; rw [List.map_map]; congr 1; exact List.map_id' _
  · intro z
    obtain ⟨p, hp, e⟩ := List.any_eq_true.mp z
    unfold pl at hp
    obtain ⟨x, hx, rfl⟩ := List.mem_map.mp hp
    have := of_decide_eq_true e
    revert this; show ¬ ((1 : Int) < 0); decide
theorem plain_lt {x : Wd} (h : Lw x) : Lt (plainL x) ∧ (plainL x).length ≤ x.length := by
  refine ⟨fun i hi => ?_, by unfold plainL; rw [List.length_map]; exact List.length_filter_le _ _⟩
  unfold plainL at hi
  obtain ⟨p, hp, rfl⟩ := List.mem_map.mp hi
  have := h p (List.mem_filter.mp hp).1
  exact ⟨this.1, this.2.1⟩
theorem tx_rp {x : Wd} (h : Lw x) (hz : x.length ≤ 200) : ∃ y, reprD [txO x] = some (.im (.str y)) := by
  rw [← plain_tx fun p hp => (h p hp).2.2]
  have p := plain_lt h
  split
  · obtain ⟨y, hy⟩ := shw_tup (rp_ti (xs := plainL x) fun i hi => (p.1.sm i hi)) (by decide) (by have := p.2; omega)
    exact ⟨y, reprD_of hy⟩
  · exact ⟨_, rfl⟩
theorem t_h10 {ns : List Int} {k : Int} {c : Int × Int × Int} {w o : Wd} (hw : Lw w) (wz : w.length ≤ 14) (ho : Lw o) (oz : o.length ≤ 14) {a3 a6 : Sl} :
    iteS (orF (tstF (opF neSD (callF reprD (consF (clKF 1 m_word_text [0] 0 1 nilD (consD (opF addD (varF 4) (varF 5)) nilD)) nilF)) (callF reprD (consF (varF 9) nilF)))) (tstF (opF neSD (callF reprD (consF (clF 1 m_word_text (consD (callF listD (consF (clKF 1 m_text_word [0] 0 1 nilD (consD (varF 8) nilD)) nilF)) nilD)) nilF)) (callF reprD (consF (unF tupleD (varF 8)) nilF))))) (retS (cF (.bool false))) nxS
      (Y13 ns k c a3 (.im (wt w)) (.im (wt o)) a6 (.im (wt (strike (w ++ o)))) (.ow false ((plainL (strike (w ++ o))).map .int)) (.im (txO (strike (w ++ o))))) = .nx (Y13 ns k c a3 (.im (wt w)) (.im (wt o)) a6 (.im (wt (strike (w ++ o)))) (.im (li (plainL (strike (w ++ o))))) (.im (txO (strike (w ++ o))))) := by
  have lz : (w ++ o).length = w.length + o.length := List.length_append
  have hl := strike_lw (lw_app hw ho) (by omega)
  have sl := strike_len (w ++ o)
  obtain ⟨y, hy⟩ := tx_rp hl (by omega)
  have v1 := v_word_text (isW_wt (lw_app hw ho)) (by rw [sizeLine_eq]; omega)
  have p := plain_lt hl
  have v2 := v_text_word (isT_li p.1) (by rw [sizeLine_eq]; omega)
  have v3 := v_word_text (isW_wl (pl_lw p.1)) (by rw [sizeLine_eq]; simp [pl]; omega)
  rw [strike_pl, tx_pl] at v3
  obtain ⟨y2, hy2⟩ := shw_tup (rp_ti (xs := plainL (strike (w ++ o))) fun i hi => (p.1.sm i hi)) (by decide) (by have := p.2; omega)
  generalize strike (w ++ o) = S at *
  generalize plainL S = L at *
  have e1 := ne_rp (Fa := clKF 1 m_word_text [0] 0 1 nilD (consD (opF addD (varF 4) (varF 5)) nilD)) (Fb := varF 9) (ρ := Y13 ns k c a3 (.im (wt w)) (.im (wt o)) a6 (.im (wt S)) (.ow false (L.map .int)) (.im (txO S))) (clk1 (add45 (by omega)) (v1 _)) rfl hy
  have g2 : clKF 1 m_text_word [0] 0 1 nilD (consD (varF 8) nilD) (Y13 ns k c a3 (.im (wt w)) (.im (wt o)) a6 (.im (wt S)) (.ow false (L.map .int)) (.im (txO S))) = .ok (.im (wt (pl L))) (Y13 ns k c a3 (.im (wt w)) (.im (wt o)) a6 (.im (wt S)) (.im (li L)) (.im (txO S))) := clk1 (d := li L) (ρ' := Y13 ns k c a3 (.im (wt w)) (.im (wt o)) a6 (.im (wt S)) (.im (li L)) (.im (txO S))) rfl (v2 _)
  have g3 : consD (callF listD (consF (clKF 1 m_text_word [0] 0 1 nilD (consD (varF 8) nilD)) nilF)) nilD (Y13 ns k c a3 (.im (wt w)) (.im (wt o)) a6 (.im (wt S)) (.ow false (L.map .int)) (.im (txO S))) = .ok [wl (pl L)] (Y13 ns k c a3 (.im (wt w)) (.im (wt o)) a6 (.im (wt S)) (.im (li L)) (.im (txO S))) := by
    generalize clKF 1 m_text_word [0] 0 1 nilD (consD (varF 8) nilD) = G at *
    unfold consD callF consF
    rw [g2]
    rfl
  have g4 := cl_of (n := 1) (m := m_word_text) g3 (v3 _)
  have C2 : tstF (opF neSD (callF reprD (consF (clF 1 m_word_text (consD (callF listD (consF (clKF 1 m_text_word [0] 0 1 nilD (consD (varF 8) nilD)) nilF)) nilD)) nilF)) (callF reprD (consF (unF tupleD (varF 8)) nilF))) (Y13 ns k c a3 (.im (wt w)) (.im (wt o)) a6 (.im (wt S)) (.ow false (L.map .int)) (.im (txO S))) = .ok false (Y13 ns k c a3 (.im (wt w)) (.im (wt o)) a6 (.im (wt S)) (.im (li L)) (.im (txO S))) := by
    generalize clF 1 m_word_text (consD (callF listD (consF (clKF 1 m_text_word [0] 0 1 nilD (consD (varF 8) nilD)) nilF)) nilD) = G at *
    have u : unF tupleD (varF 8) (Y13 ns k c a3 (.im (wt w)) (.im (wt o)) a6 (.im (wt S)) (.im (li L)) (.im (txO S))) = .ok (.im (ti L)) (Y13 ns k c a3 (.im (wt w)) (.im (wt o)) a6 (.im (wt S)) (.im (li L)) (.im (txO S))) := rfl
    have nn := neSD_same y2
    have r := reprD_of hy2
    have r' : reprD [ti L] = some (.im (.str y2)) := r
    generalize ti L = TL at *
    simp only [tstF, opF, callF, consF, g4, u, nilF, bd, frz, call1, drs, dr, Option.map, r', fin, op2, nn, blO]
  exact (ite_f (or_ok2 e1 C2)).trans (nx_s _)
theorem t_h11 {ns : List Int} {k : Int} {c : Int × Int × Int} {L : List Int} (hl : Lt L) (lz : L.length ≤ 100) {a3 a4 a5 a6 a7 a9 : Sl} :
    iteS (tstF (opF neSD (callF reprD (consF (clF 1 m_text_word (consD (unF tupleD (varF 8)) nilD)) nilF)) (callF reprD (consF (unF tupleD (lcF (seqI (varF 8)) (nameT 11) yesF (tupF (consD (varF 11) (consD (cF (.int 1)) nilD))) [11])) nilF)))) (retS (cF (.bool false))) nxS (Y13 ns k c a3 a4 a5 a6 a7 (.im (li L)) a9) = .nx (Y13 ns k c a3 a4 a5 a6 a7 (.im (li L)) a9) := by
  obtain ⟨x, hx⟩ : ∃ x, shw (wt (pl L)) = some x := shw_wt (lw_sm (pl_lw hl)) (by simp [pl]; omega)
  have v := v_text_word (isT_ti hl) (by rw [sizeLine_eq]; omega)
  have lc : lcF (seqI (varF 8)) (nameT 11) yesF (tupF (consD (varF 11) (consD (cF (.int 1)) nilD))) [11] (Y13 ns k c a3 a4 a5 a6 a7 (.im (li L)) a9) = .ok (.fr ((pl L).map pr)) (Y13 ns k c a3 a4 a5 a6 a7 (.im (li L)) a9) := by
    have I : seqI (varF 8) (Y13 ns k c a3 a4 a5 a6 a7 (.im (li L)) a9) = .ok (L.map .int) (Y13 ns k c a3 a4 a5 a6 a7 (.im (li L)) a9) := rfl
    have gg : (L.map PyData.int).map (fun d => PyData.tuple [d, .int 1]) = (pl L).map pr := by unfold pl; rw [List.map_map, List.map_map]; rfl
    unfold lcF
    rw [I, bd_ok, if_pos (show plainAt _ _ = true from rfl), show wipeR (Y13 ns k c a3 a4 a5 a6 a7 (.im (li L)) a9) [11] = Y13 ns k c a3 a4 a5 a6 a7 (.im (li L)) a9 from rfl,
      lcL_map (f := fun d => PyData.tuple [d, .int 1]) (L.map .int) [] (fun d hd => ?_) (by simp [sizeLine_eq]; omega), bd_ok, gg]
    · rfl
    · exact ⟨[.im (li ns), .im (.int k), .ow false (bx c), a3, a4, a5, a6, a7, .im (li L), a9, .un, .im d, .un], [.im (li ns), .im (.int k), .ow false (bx c), a3, a4, a5, a6, a7, .im (li L), a9, .un, .im d, .un], rfl, rfl, rfl, rfl⟩
  have u : unF tupleD (lcF (seqI (varF 8)) (nameT 11) yesF (tupF (consD (varF 11) (consD (cF (.int 1)) nilD))) [11]) (Y13 ns k c a3 a4 a5 a6 a7 (.im (li L)) a9) = .ok (.im (wt (pl L))) (Y13 ns k c a3 a4 a5 a6 a7 (.im (li L)) a9) := by
    unfold unF
    rw [lc]
    rfl
  exact (ite_f (ne_rp (cl_of (ds := [ti L]) (ρ' := Y13 ns k c a3 a4 a5 a6 a7 (.im (li L)) a9) rfl (v _)) u (reprD_of hx))).trans (nx_s _)
abbrev b_law : Rho → So := seqS (asgS 2 (clF 2 m_law_box (consD (varF 0) (consD (varF 1) nilD))))
  (seqS (asgS 3 (lcF (rng1I (cF (.int 3))) (nameT 10) yesF e_tk [10]))
  (seqS (parS 4 5 (clI 2 m_law_word 2 (consD (varF 3) nilD)) (clI 2 m_law_word 2 (consD (varF 3) nilD)))
  (seqS (iteS (orF (notF (tstF (clI 2 m_law_word_right 2 (consD (varF 4) nilD)))) (orF (notF (tstF (clI 2 m_law_word_right 2 (consD (varF 5) nilD)))) (notF (tstF (clI 2 m_law_refusals_right 2 (consD (varF 4) nilD)))))) (retS (cF (.bool false))) nxS)
  (seqS (asgS 6 (unF tupleD back_lc))
  (seqS (iteS (orF (tstF (opF neSD (callF reprD (consF (clKF 1 m_undo_word [0] 0 1 nilD (consD (callF listD (consF (varF 4) nilF)) nilD)) nilF)) (callF reprD (consF (varF 6) nilF)))) (tstF (opF neD (clKF 2 m_join_words [0, 1] 0 2 nilD (consD (varF 4) (consD (varF 6) nilD))) (tupF nilD)))) (retS (cF (.bool false))) nxS)
  (seqS (asgS 7 (opF ixD (clI 2 m_law_struck 2 (consD (opF addD (varF 4) (varF 5)) nilD)) (cF (.int 0))))
  (seqS (iteS (orF (tstF (opF neSD (callF reprD (consF (clKF 2 m_join_words [0, 1] 0 2 nilD (consD (varF 4) (consD (callF listD (consF (varF 5) nilF)) nilD))) nilF)) (callF reprD (consF (varF 7) nilF)))) (tstF (opF neSD (callF reprD (consF (clF 1 m_strike_out (consD (varF 4) nilD)) nilF)) (callF reprD (consF (opF ixD (clI 2 m_law_struck 2 (consD (varF 4) nilD)) (cF (.int 0))) nilF))))) (retS (cF (.bool false))) nxS)
  (seqS (asgS 8 (lcF (seqI (varF 7)) (tupU 2 (consT (nameT 11) (consT (nameT 12) nilT))) (tstF (opF eqD (varF 12) (cF (.int 1)))) (varF 11) [11, 12]))
  (seqS (asgS 9 (ifF (tstF (opF eqD (callF lenD (consF (varF 8) nilF)) (callF lenD (consF (varF 7) nilF)))) (unF tupleD (varF 8)) (cF .none)))
  (seqS (iteS (orF (tstF (opF neSD (callF reprD (consF (clKF 1 m_word_text [0] 0 1 nilD (consD (opF addD (varF 4) (varF 5)) nilD)) nilF)) (callF reprD (consF (varF 9) nilF)))) (tstF (opF neSD (callF reprD (consF (clF 1 m_word_text (consD (callF listD (consF (clKF 1 m_text_word [0] 0 1 nilD (consD (varF 8) nilD)) nilF)) nilD)) nilF)) (callF reprD (consF (unF tupleD (varF 8)) nilF))))) (retS (cF (.bool false))) nxS)
  (iteS (tstF (opF neSD (callF reprD (consF (clF 1 m_text_word (consD (unF tupleD (varF 8)) nilD)) nilF)) (callF reprD (consF (unF tupleD (lcF (seqI (varF 8)) (nameT 11) yesF (tupF (consD (varF 11) (consD (cF (.int 1)) nilD))) [11])) nilF)))) (retS (cF (.bool false))) nxS)))))))))))
def Okr (ns : List Int) (ρ : Rho) : Prop := ∃ a1 a2 a3 a4 a5 a6 a7 a8 a9, ρ = [.im (li ns), a1, a2, a3, a4, a5, a6, a7, a8, a9, .un, .un, .un] ∧ Fr a1 ∧ np a2 = false ∧ np a3 = false ∧ np a4 = false ∧ np a5 = false ∧ np a6 = false ∧ np a7 = false ∧ np a8 = false ∧ np a9 = false
theorem t_body {ns : List Int} {k : Nat} (hk : k < 4) {ρ : Rho} (h : Okr ns ρ) : ∃ ρ1 ρ2, nameT 1 (.int (k : Int)) ρ = some ρ1 ∧ b_law ρ1 = .nx ρ2 ∧ Okr ns ρ2 := by
  obtain ⟨a1, a2, a3, a4, a5, a6, a7, a8, a9, rfl, n1, n2, n3, n4, n5, n6, n7, n8, n9⟩ := h
  obtain ⟨c0, b0, e0⟩ := v_box ns k hk
  have q0 : asgS 2 (clF 2 m_law_box (consD (varF 0) (consD (varF 1) nilD))) [.im (li ns), .im (.int (k : Int)), a2, a3, a4, a5, a6, a7, a8, a9, .un, .un, .un] = .nx (Y13 ns k c0 a3 a4 a5 a6 a7 a8 a9) := by
    unfold asgS
    rw [cl_of (n := 2) (m := m_law_box) (F := consD (varF 0) (consD (varF 1) nilD)) (ds := [li ns, .int (k : Int)]) (ρ := [.im (li ns), .im (.int (k : Int)), a2, a3, a4, a5, a6, a7, a8, a9, .un, .un, .un]) (ρ' := [.im (li ns), .im (.int (k : Int)), a2, a3, a4, a5, a6, a7, a8, a9, .un, .un, .un]) rfl (e0 _)]
    show setN 2 (.fr _) _ = _
    unfold setN
    rw [if_neg (by simp [pin_s, pin_0, n2])]
    rfl
  obtain ⟨ls, c1, hl, h3, b1, q1⟩ := t_h1 (ns := ns) (k := (k : Int)) b0 (by decide) (a4 := a4) (a5 := a5) (a6 := a6) (a7 := a7) (a8 := a8) (a9 := a9) n3
  obtain ⟨w, o, c2, hw, wz, ho, oz, b2, q2⟩ := t_h2 (ns := ns) (k := (k : Int)) b1 (by decide) hl h3 (a6 := a6) (a7 := a7) (a8 := a8) (a9 := a9) n4 n5
  obtain ⟨c3, b3, q3⟩ := t_h3 (ns := ns) (k := (k : Int)) b2 (by decide) hw wz ho oz (a3 := .im (.list (ls.map .int))) (a6 := a6) (a7 := a7) (a8 := a8) (a9 := a9)
  have q4 := t_h4 (ns := ns) (k := (k : Int)) (c := c3) (w := w) (o := o) (by omega) (a3 := .im (.list (ls.map .int))) (a7 := a7) (a8 := a8) (a9 := a9) n6
  have q5 := t_h5 (ns := ns) (k := (k : Int)) (c := c3) (o := o) hw wz (a3 := .im (.list (ls.map .int))) (a7 := a7) (a8 := a8) (a9 := a9)
  obtain ⟨c4, b4, q6⟩ := t_h6 (ns := ns) (k := (k : Int)) b3 (by decide) hw wz ho oz (a3 := .im (.list (ls.map .int))) (a6 := .im (wt (inv w))) (a8 := a8) (a9 := a9) n7
  obtain ⟨c5, b5, q7⟩ := t_h7 (ns := ns) (k := (k : Int)) b4 (by decide) hw wz ho oz (a3 := .im (.list (ls.map .int))) (a6 := .im (wt (inv w))) (a8 := a8) (a9 := a9)
  have lz : (w ++ o).length = w.length + o.length := List.length_append
  have sl := strike_len (w ++ o)
  have sw := strike_lw (lw_app hw ho) (by omega)
  have q8 := t_h8 (ns := ns) (k := (k : Int)) (c := c5) (x := strike (w ++ o)) (by omega) (a3 := .im (.list (ls.map .int))) (a4 := .im (wt w)) (a5 := .im (wt o)) (a6 := .im (wt (inv w))) (a9 := a9) n8
  have q9 := t_h9 (ns := ns) (k := (k : Int)) (c := c5) (x := strike (w ++ o)) (fun p hp => (sw p hp).2.2) (a3 := .im (.list (ls.map .int))) (a4 := .im (wt w)) (a5 := .im (wt o)) (a6 := .im (wt (inv w))) n9
  have q10 := t_h10 (ns := ns) (k := (k : Int)) (c := c5) hw wz ho oz (a3 := .im (.list (ls.map .int))) (a6 := .im (wt (inv w)))
  have p := plain_lt sw
  have q11 := t_h11 (ns := ns) (k := (k : Int)) (c := c5) (L := plainL (strike (w ++ o))) p.1 (by omega) (a3 := .im (.list (ls.map .int))) (a4 := .im (wt w)) (a5 := .im (wt o)) (a6 := .im (wt (inv w))) (a7 := .im (wt (strike (w ++ o)))) (a9 := .im (txO (strike (w ++ o))))
  refine ⟨[.im (li ns), .im (.int (k : Int)), a2, a3, a4, a5, a6, a7, a8, a9, .un, .un, .un], Y13 ns k c5 (.im (.list (ls.map .int))) (.im (wt w)) (.im (wt o)) (.im (wt (inv w))) (.im (wt (strike (w ++ o)))) (.im (li (plainL (strike (w ++ o))))) (.im (txO (strike (w ++ o)))), by rcases n1 with rfl | ⟨e, rfl⟩ <;> rfl, ?_, ?_⟩
  · unfold b_law
    rw [seq_nx q0, seq_nx q1, seq_nx q2, seq_nx q3, seq_nx q4, seq_nx q5, seq_nx q6, seq_nx q7, seq_nx q8, seq_nx q9, seq_nx q10]
    exact q11
  · exact ⟨_, _, _, _, _, _, _, _, _, rfl, fr_im, rfl, rfl, rfl, rfl, rfl, rfl, rfl, rfl⟩
theorem t_loop {ns : List Int} : ∀ (n s : Nat) (ρ : Rho), s + n ≤ 4 → Okr ns ρ → ∃ ρ', forL (nameT 1) b_law (idx s n) ρ = .nx ρ'
  | 0, s, ρ, _, _ => ⟨ρ, rfl⟩
  | n + 1, s, ρ, hs, h => by
    obtain ⟨ρ1, ρ2, e1, e2, h2⟩ := t_body (k := s) (by omega) h
    obtain ⟨ρ', e⟩ := t_loop n (s + 1) ρ2 (by omega) h2
    refine ⟨ρ', ?_⟩
    rw [idx_succ, forL_cons e1, e2]
    exact e
theorem t_g0 (ns : List Int) (ρ : Rho) : iteS (orF (tstF (opF neD (clF 1 m_strike_out (consD (tupF (consD (tupF (consD (cF (.int 3)) (consD (cF (.int 1)) nilD))) (consD (tupF (consD (cF (.int 5)) (consD (cF (.int 1)) nilD))) (consD (tupF (consD (cF (.int 5)) (consD (opF subD (cF (.int 0)) (cF (.int 1))) nilD))) (consD (tupF (consD (cF (.int 3)) (consD (opF subD (cF (.int 0)) (cF (.int 1))) nilD))) (consD (tupF (consD (cF (.int 9)) (consD (opF subD (cF (.int 0)) (cF (.int 1))) nilD))) nilD)))))) nilD)) (tupF (consD (tupF (consD (cF (.int 9)) (consD (opF subD (cF (.int 0)) (cF (.int 1))) nilD))) nilD)))) (tstF (opF neD (clF 1 m_strike_out (consD (tupF nilD) nilD)) (tupF nilD)))) (retS (cF (.bool false))) nxS ρ = .nx ρ := by
  have v1 := v_strike_out (d := wt [(3, 1), (5, 1), (5, -1), (3, -1), (9, -1)]) (w := [(3, 1), (5, 1), (5, -1), (3, -1), (9, -1)]) (isW_wt (by decide)) (by decide)
  have v2 := v_strike_out (d := wt []) (w := []) (isW_wt (by decide)) (by decide)
  have s1 : strike [(3, 1), (5, 1), (5, -1), (3, -1), (9, -1)] = [(9, -1)] := by decide
  rw [s1] at v1
  have n1 : neD (wt [(9, -1)]) (wt [(9, -1)]) = some (.im (.bool false)) := (neD_wt _ _).trans (by simp)
  have n2 : neD (wt []) (wt []) = some (.im (.bool false)) := (neD_wt _ _).trans (by simp)
  have e1 := tst_im (op_of (f := neD) (cl_of (n := 1) (m := m_strike_out) (F := consD (tupF (consD (tupF (consD (cF (.int 3)) (consD (cF (.int 1)) nilD))) (consD (tupF (consD (cF (.int 5)) (consD (cF (.int 1)) nilD))) (consD (tupF (consD (cF (.int 5)) (consD (opF subD (cF (.int 0)) (cF (.int 1))) nilD))) (consD (tupF (consD (cF (.int 3)) (consD (opF subD (cF (.int 0)) (cF (.int 1))) nilD))) (consD (tupF (consD (cF (.int 9)) (consD (opF subD (cF (.int 0)) (cF (.int 1))) nilD))) nilD)))))) nilD) (ρ := ρ) (ρ' := ρ) (ds := [wt [(3, 1), (5, 1), (5, -1), (3, -1), (9, -1)]]) rfl (v1 ρ)) (show tupF (consD (tupF (consD (cF (.int 9)) (consD (opF subD (cF (.int 0)) (cF (.int 1))) nilD))) nilD) ρ = .ok (.im (wt [(9, -1)])) ρ from rfl) n1)
  have e2 := tst_im (op_of (f := neD) (cl_of (n := 1) (m := m_strike_out) (F := consD (tupF nilD) nilD) (ρ := ρ) (ρ' := ρ) (ds := [wt []]) rfl (v2 ρ)) (show tupF nilD ρ = .ok (.im (wt [])) ρ from rfl) n2)
  exact (ite_f (or_ok e1 e2)).trans (nx_s _)
theorem law_true (ns : List Int) : ∃ as, m_law [.im (li ns)] = .rt (.im (.bool true)) as := by
  have ok : Okr ns [.im (li ns), .un, .un, .un, .un, .un, .un, .un, .un, .un, .un, .un, .un] := ⟨_, _, _, _, _, _, _, _, _, rfl, fr_un, rfl, rfl, rfl, rfl, rfl, rfl, rfl, rfl⟩
  obtain ⟨N, hN, I⟩ : ∃ N : Nat, N ≤ 4 ∧ rng1I (callF max2D (consF (cF (.int 2)) (consF (callF min2D (consF (cF (.int 4)) (consF (callF lenD (consF (varF 0) nilF)) nilF))) nilF))) [.im (li ns), .un, .un, .un, .un, .un, .un, .un, .un, .un, .un, .un, .un] = .ok (idx 0 N) [.im (li ns), .un, .un, .un, .un, .un, .un, .un, .un, .un, .un, .un, .un] := by
    refine ⟨max 2 (min 4 ns.length), by omega, rng1_of ?_ (by omega)⟩
    have l := lenD_li ns
    have m1 : min2D [.int 4, .int (ns.length : Nat)] = some (.im (.int ((min 4 ns.length : Nat) : Int))) := by
      unfold min2D
      dsimp only
      split <;> (congr 3; omega)
    have m2 : max2D [.int 2, .int ((min 4 ns.length : Nat) : Int)] = some (.im (.int ((max 2 (min 4 ns.length) : Nat) : Int))) := by
      unfold max2D
      dsimp only
      split <;> (congr 3; omega)
    generalize ((max 2 (min 4 ns.length) : Nat) : Int) = X at *
    generalize ((min 4 ns.length : Nat) : Int) = Z at *
    simp only [callF, consF, varF, nilF, cF, List.getElem?_cons_zero, bd, frz, call1, drs, dr, Option.map, l, m1, m2, fin, dat]
  obtain ⟨ρ', e⟩ := t_loop N 0 _ (by omega) ok
  have G : G_law ([.im (li ns)] ++ unS 12) = .rt (.im (.bool true)) ρ' := by
    show seqS _ (seqS (forS _ (nameT 1) b_law) _) [.im (li ns), .un, .un, .un, .un, .un, .un, .un, .un, .un, .un, .un, .un] = _
    rw [seq_nx (t_g0 ns _), seq_nx ((for_of I).trans e)]
    rfl
  refine ⟨outA 1 ρ', ?_⟩
  unfold m_law mF
  rw [G]
  rfl
end K01
end VL

namespace VL
open PySem PySem.Spec PyProof.Rows L2
namespace K01
/-- an error of the class at C is one of the class at B -/
theorem kit_sub {K : PySem.W.Frag} {C B : Addr} (h2 : PySem.W.isClsIn K B = true) (h3 : PySem.W.typeIn K (.ref B) = some (.type "type")) (h4 : PySem.W.subIn K (.ref C) (.ref B) = some true) : PySem.W.kitOne K (.ref C) (.ref B) = some true := by
  have e2 : ((PySem.W.clsIn K B).isSome && PySem.W.typeIn K (.ref B) == some (.type "type")) = true := by
    have h2' : (PySem.W.clsIn K B).isSome = true := h2
    rw [h2', h3] <;> rfl
  unfold PySem.W.kitOne
  split
  · rfl
  · show (if ((PySem.W.clsIn K B).isSome && PySem.W.typeIn K (.ref B) == some (.type "type")) = true then PySem.W.subIn K (.ref C) (.ref B) else none) = some true
    rw [if_pos e2]
    exact h4
/-- an error of the class at S is what «except S» names -/
theorem exm_self {K : PySem.W.Frag} {S : Addr} (h1 : PySem.W.subIn K (.ref S) (.type "BaseException") = some true) (h2 : PySem.W.isClsIn K S = true) (h3 : PySem.W.typeIn K (.ref S) = some (.type "type")) (h4 : PySem.W.subIn K (.ref S) (.ref S) = some true) :
    PySem.W.exmOne K (.ref S) (.ref S) = some true := by
  have e1 : (PySem.W.subIn K (.ref S) (.type "BaseException") == some true) = true := by rw [h1] <;> rfl
  have e2 : ((PySem.W.clsIn K S).isSome && PySem.W.typeIn K (.ref S) == some (.type "type")) = true := by
    have h2' : (PySem.W.clsIn K S).isSome = true := h2
    rw [h2', h3] <;> rfl
  show (if (PySem.W.subIn K (.ref S) (.type "BaseException") == some true) = true then (if ((PySem.W.clsIn K S).isSome && PySem.W.typeIn K (.ref S) == some (.type "type")) = true then PySem.W.subIn K (.ref S) (.ref S) else none) else none) = some true
  rw [if_pos e1, if_pos e2]
  exact h4
theorem all_mk {P : Program} {w : World} {K : PySem.W.Frag} {h : Heap} {mg : Str → Option Value} {fa : Addr} (X : K.In h) (G : h.Ns mainGlobals mg) (hfa : mg "law" = some (.ref fa))
    {a_MergeError : Addr} {C0 B0 f0 : Addr} {nm0 q0 : Str} {N0 : Addr} {bs0 sub0 : List Value} {sn0 : List Str} {ab0 : Bool} {col0 : Option Bool} {dd0 od0 an0 : Option Addr} {y00 y01 y02 y03 y05 : Option Value} {osl0 : Array (Option Value)} {oc0 doc0 pm0 cdv0 ct0 : Value} {C1 B1 f1 : Addr} {nm1 q1 : Str} {N1 : Addr} {bs1 sub1 : List Value} {sn1 : List Str} {ab1 : Bool} {col1 : Option Bool} {dd1 od1 an1 : Option Addr} {y10 y11 y12 y13 y15 : Option Value} {osl1 : Array (Option Value)} {oc1 doc1 pm1 cdv1 ct1 : Value} {f_is_integer : Addr} {od_is_integer an_is_integer : Option Addr} {sl_is_integer : Array (Option Value)} {oc_is_integer kV_is_integer dc_is_integer pm_is_integer cd_is_integer ct_is_integer : Value} {f_is_number : Addr} {od_is_number an_is_number : Option Addr} {sl_is_number : Array (Option Value)} {oc_is_number kV_is_number dc_is_number pm_is_number cd_is_number ct_is_number : Value} {f_is_number_below : Addr} {od_is_number_below an_is_number_below : Option Addr} {sl_is_number_below : Array (Option Value)} {oc_is_number_below kV_is_number_below dc_is_number_below pm_is_number_below cd_is_number_below ct_is_number_below : Value} {f_is_sequence : Addr} {od_is_sequence an_is_sequence : Option Addr} {sl_is_sequence : Array (Option Value)} {oc_is_sequence kV_is_sequence dc_is_sequence pm_is_sequence cd_is_sequence ct_is_sequence : Value} {f_is_row_of : Addr} {od_is_row_of an_is_row_of : Option Addr} {sl_is_row_of : Array (Option Value)} {oc_is_row_of kV_is_row_of dc_is_row_of pm_is_row_of cd_is_row_of ct_is_row_of : Value} {f_is_tuple_of : Addr} {od_is_tuple_of an_is_tuple_of : Option Addr} {sl_is_tuple_of : Array (Option Value)} {oc_is_tuple_of kV_is_tuple_of dc_is_tuple_of pm_is_tuple_of cd_is_tuple_of ct_is_tuple_of : Value} {f_is_letter : Addr} {od_is_letter an_is_letter : Option Addr} {sl_is_letter : Array (Option Value)} {oc_is_letter kV_is_letter dc_is_letter pm_is_letter cd_is_letter ct_is_letter : Value} {f_text_or_none : Addr} {od_text_or_none an_text_or_none : Option Addr} {sl_text_or_none : Array (Option Value)} {oc_text_or_none kV_text_or_none dc_text_or_none pm_text_or_none cd_text_or_none ct_text_or_none : Value} {f_need_text : Addr} {od_need_text an_need_text : Option Addr} {sl_need_text : Array (Option Value)} {oc_need_text kV_need_text dc_need_text pm_need_text cd_need_text ct_need_text : Value} {f_is_signed_letter : Addr} {od_is_signed_letter an_is_signed_letter : Option Addr} {sl_is_signed_letter : Array (Option Value)} {oc_is_signed_letter kV_is_signed_letter dc_is_signed_letter pm_is_signed_letter cd_is_signed_letter ct_is_signed_letter : Value} {f_need_word : Addr} {od_need_word an_need_word : Option Addr} {sl_need_word : Array (Option Value)} {oc_need_word kV_need_word dc_need_word pm_need_word cd_need_word ct_need_word : Value} {f_undo_each_other : Addr} {od_undo_each_other an_undo_each_other : Option Addr} {sl_undo_each_other : Array (Option Value)} {oc_undo_each_other kV_undo_each_other dc_undo_each_other pm_undo_each_other cd_undo_each_other ct_undo_each_other : Value} {f_struck : Addr} {od_struck an_struck : Option Addr} {sl_struck : Array (Option Value)} {oc_struck kV_struck dc_struck pm_struck cd_struck ct_struck : Value} {f_undone : Addr} {od_undone an_undone : Option Addr} {sl_undone : Array (Option Value)} {oc_undone kV_undone dc_undone pm_undone cd_undone ct_undone : Value} {f_strike_out : Addr} {od_strike_out an_strike_out : Option Addr} {sl_strike_out : Array (Option Value)} {oc_strike_out kV_strike_out dc_strike_out pm_strike_out cd_strike_out ct_strike_out : Value} {f_undo_word : Addr} {od_undo_word an_undo_word : Option Addr} {sl_undo_word : Array (Option Value)} {oc_undo_word kV_undo_word dc_undo_word pm_undo_word cd_undo_word ct_undo_word : Value} {f_join_words : Addr} {od_join_words an_join_words : Option Addr} {sl_join_words : Array (Option Value)} {oc_join_words kV_join_words dc_join_words pm_join_words cd_join_words ct_join_words : Value} {f_strike_pairs : Addr} {od_strike_pairs an_strike_pairs : Option Addr} {sl_strike_pairs : Array (Option Value)} {oc_strike_pairs kV_strike_pairs dc_strike_pairs pm_strike_pairs cd_strike_pairs ct_strike_pairs : Value} {f_partners_or_none : Addr} {od_partners_or_none an_partners_or_none : Option Addr} {sl_partners_or_none : Array (Option Value)} {oc_partners_or_none kV_partners_or_none dc_partners_or_none pm_partners_or_none cd_partners_or_none ct_partners_or_none : Value} {f_strikes_hold : Addr} {od_strikes_hold an_strikes_hold : Option Addr} {sl_strikes_hold : Array (Option Value)} {oc_strikes_hold kV_strikes_hold dc_strikes_hold pm_strikes_hold cd_strikes_hold ct_strikes_hold : Value} {f_word_of : Addr} {od_word_of an_word_of : Option Addr} {sl_word_of : Array (Option Value)} {oc_word_of kV_word_of dc_word_of pm_word_of cd_word_of ct_word_of : Value} {f_text_of : Addr} {od_text_of an_text_of : Option Addr} {sl_text_of : Array (Option Value)} {oc_text_of kV_text_of dc_text_of pm_text_of cd_text_of ct_text_of : Value} {f_text_word : Addr} {od_text_word an_text_word : Option Addr} {sl_text_word : Array (Option Value)} {oc_text_word kV_text_word dc_text_word pm_text_word cd_text_word ct_text_word : Value} {f_word_text : Addr} {od_word_text an_word_text : Option Addr} {sl_word_text : Array (Option Value)} {oc_word_text kV_word_text dc_word_text pm_word_text cd_word_text ct_word_text : Value} {f_law_box : Addr} {od_law_box an_law_box : Option Addr} {sl_law_box : Array (Option Value)} {oc_law_box kV_law_box dc_law_box pm_law_box cd_law_box ct_law_box : Value} {f_law_take : Addr} {od_law_take an_law_take : Option Addr} {sl_law_take : Array (Option Value)} {oc_law_take kV_law_take dc_law_take pm_law_take cd_law_take ct_law_take : Value} {f_law_pick : Addr} {od_law_pick an_law_pick : Option Addr} {sl_law_pick : Array (Option Value)} {oc_law_pick kV_law_pick dc_law_pick pm_law_pick cd_law_pick ct_law_pick : Value} {f_law_word : Addr} {od_law_word an_law_word : Option Addr} {sl_law_word : Array (Option Value)} {oc_law_word kV_law_word dc_law_word pm_law_word cd_law_word ct_law_word : Value} {f_law_struck : Addr} {od_law_struck an_law_struck : Option Addr} {sl_law_struck : Array (Option Value)} {oc_law_struck kV_law_struck dc_law_struck pm_law_struck cd_law_struck ct_law_struck : Value} {f_law_pairs_right : Addr} {od_law_pairs_right an_law_pairs_right : Option Addr} {sl_law_pairs_right : Array (Option Value)} {oc_law_pairs_right kV_law_pairs_right dc_law_pairs_right pm_law_pairs_right cd_law_pairs_right ct_law_pairs_right : Value} {f_law_spoilt : Addr} {od_law_spoilt an_law_spoilt : Option Addr} {sl_law_spoilt : Array (Option Value)} {oc_law_spoilt kV_law_spoilt dc_law_spoilt pm_law_spoilt cd_law_spoilt ct_law_spoilt : Value} {f_law_refused : Addr} {od_law_refused an_law_refused : Option Addr} {sl_law_refused : Array (Option Value)} {oc_law_refused kV_law_refused dc_law_refused pm_law_refused cd_law_refused ct_law_refused : Value} {f_law_refusals_right : Addr} {od_law_refusals_right an_law_refusals_right : Option Addr} {sl_law_refusals_right : Array (Option Value)} {oc_law_refusals_right kV_law_refusals_right dc_law_refusals_right pm_law_refusals_right cd_law_refusals_right ct_law_refusals_right : Value} {f_law_word_right : Addr} {od_law_word_right an_law_word_right : Option Addr} {sl_law_word_right : Array (Option Value)} {oc_law_word_right kV_law_word_right dc_law_word_right pm_law_word_right cd_law_word_right ct_law_word_right : Value} {f_law : Addr} {od_law an_law : Option Addr} {sl_law : Array (Option Value)} {oc_law kV_law dc_law pm_law cd_law ct_law : Value}
    (z_abs : PySem.W.nsIn K mainGlobals "abs" = some none)
    (z_any : PySem.W.nsIn K mainGlobals "any" = some none)
    (z_bool : PySem.W.nsIn K mainGlobals "bool" = some none)
    (z_enumerate : PySem.W.nsIn K mainGlobals "enumerate" = some none)
    (z_int : PySem.W.nsIn K mainGlobals "int" = some none)
    (z_isinstance : PySem.W.nsIn K mainGlobals "isinstance" = some none)
    (z_len : PySem.W.nsIn K mainGlobals "len" = some none)
    (z_list : PySem.W.nsIn K mainGlobals "list" = some none)
    (z_max : PySem.W.nsIn K mainGlobals "max" = some none)
    (z_min : PySem.W.nsIn K mainGlobals "min" = some none)
    (z_range : PySem.W.nsIn K mainGlobals "range" = some none)
    (z_repr : PySem.W.nsIn K mainGlobals "repr" = some none)
    (z_set : PySem.W.nsIn K mainGlobals "set" = some none)
    (z_sorted : PySem.W.nsIn K mainGlobals "sorted" = some none)
    (z_tuple : PySem.W.nsIn K mainGlobals "tuple" = some none)
    (hB_MergeError : PySem.W.nsIn K mainGlobals "MergeError" = some (some (.ref a_MergeError)))
    (e0_g : PySem.W.nsIn K mainGlobals "InvalidText" = some (some (.ref C0)))
    (e0_l : K.lookup C0 = some (excClassObj nm0 q0 C0 N0 bs0 (.ref B0 :: PySem.ErX.baseTail) true sn0 sub0 ab0 col0 dd0 y00 y01 y02 y03 y05 "Exception.__new__"))
    (e0_sa : PySem.W.findIn K (.ref C0) "__setattr__" = some (some (.builtin "object.__setattr__")))
    (e0_ga : PySem.W.findIn K (.ref C0) "__getattribute__" = some (some (.builtin "BaseException.__getattribute__")))
    (e0_gg : PySem.W.findIn K (.ref C0) "__getattr__" = some none)
    (e0_no : PySem.W.findIn K (.ref C0) "at" = some none)
    (e0_i : PySem.W.findIn K (.ref C0) "__init__" = some (some (.ref f0)))
    (e0_t : PySem.W.typeIn K (.ref f0) = some (.type "function"))
    (e0_lf : K.lookup f0 = some ⟨oc0, od0, .func (PySem.W.fnOf "__init__" "InvalidText.__init__" (PySem.ErX.iA ⟨6, 17, 6, 21⟩ ⟨6, 23, 6, 25⟩) (PySem.ErX.iB ⟨7, 8, 7, 12⟩ ⟨7, 8, 7, 15⟩ ⟨7, 18, 7, 20⟩ ⟨7, 8, 7, 20⟩) PySem.ErX.iS .none .none doc0 pm0 an0 cdv0 ct0), osl0⟩)
    (e0_cf : PySem.W.codeIn K cdv0 "InvalidText.__init__" = true)
    (e0_k : PySem.W.keepIn K (.ref C0) = true)
    (e0_ex : PySem.W.subIn K (.ref C0) (.type "BaseException") = some true)
    (e0_ty : PySem.W.typeIn K (.ref C0) = some (.type "type"))
    (e0_hd : PySem.W.hasDictIn K C0 = true)
    (e0_ic : PySem.W.isClsIn K C0 = true)
    (e0_ss : PySem.W.subIn K (.ref C0) (.ref C0) = some true)
    (e0_ca : PySem.W.findIn K (.ref C0) "__class__" = some (some (.builtin "object.__class__")))
    (e0_cn : PySem.W.specialIn K (.builtin "object.__class__") "__get__" = some (some (.builtin "getset_descriptor.__get__")))
    (e0_ct : PySem.W.takesIn K (.builtin "object.__class__") = some true)
    (e0_cm : PySem.W.mroIn K C0 (.type "object") = some true)
    (e0_iMergeError : PySem.W.isClsIn K a_MergeError = true)
    (e0_tMergeError : PySem.W.typeIn K (.ref a_MergeError) = some (.type "type"))
    (e0_sMergeError : PySem.W.subIn K (.ref C0) (.ref a_MergeError) = some true)
    (e1_g : PySem.W.nsIn K mainGlobals "InvalidWord" = some (some (.ref C1)))
    (e1_l : K.lookup C1 = some (excClassObj nm1 q1 C1 N1 bs1 (.ref B1 :: PySem.ErX.baseTail) true sn1 sub1 ab1 col1 dd1 y10 y11 y12 y13 y15 "Exception.__new__"))
    (e1_sa : PySem.W.findIn K (.ref C1) "__setattr__" = some (some (.builtin "object.__setattr__")))
    (e1_ga : PySem.W.findIn K (.ref C1) "__getattribute__" = some (some (.builtin "BaseException.__getattribute__")))
    (e1_gg : PySem.W.findIn K (.ref C1) "__getattr__" = some none)
    (e1_no : PySem.W.findIn K (.ref C1) "at" = some none)
    (e1_i : PySem.W.findIn K (.ref C1) "__init__" = some (some (.ref f1)))
    (e1_t : PySem.W.typeIn K (.ref f1) = some (.type "function"))
    (e1_lf : K.lookup f1 = some ⟨oc1, od1, .func (PySem.W.fnOf "__init__" "InvalidWord.__init__" (PySem.ErX.iA ⟨10, 17, 10, 21⟩ ⟨10, 23, 10, 25⟩) (PySem.ErX.iB ⟨11, 8, 11, 12⟩ ⟨11, 8, 11, 15⟩ ⟨11, 18, 11, 20⟩ ⟨11, 8, 11, 20⟩) PySem.ErX.iS .none .none doc1 pm1 an1 cdv1 ct1), osl1⟩)
    (e1_cf : PySem.W.codeIn K cdv1 "InvalidWord.__init__" = true)
    (e1_k : PySem.W.keepIn K (.ref C1) = true)
    (e1_ex : PySem.W.subIn K (.ref C1) (.type "BaseException") = some true)
    (e1_ty : PySem.W.typeIn K (.ref C1) = some (.type "type"))
    (e1_hd : PySem.W.hasDictIn K C1 = true)
    (e1_ic : PySem.W.isClsIn K C1 = true)
    (e1_ss : PySem.W.subIn K (.ref C1) (.ref C1) = some true)
    (e1_ca : PySem.W.findIn K (.ref C1) "__class__" = some (some (.builtin "object.__class__")))
    (e1_cn : PySem.W.specialIn K (.builtin "object.__class__") "__get__" = some (some (.builtin "getset_descriptor.__get__")))
    (e1_ct : PySem.W.takesIn K (.builtin "object.__class__") = some true)
    (e1_cm : PySem.W.mroIn K C1 (.type "object") = some true)
    (e1_iMergeError : PySem.W.isClsIn K a_MergeError = true)
    (e1_tMergeError : PySem.W.typeIn K (.ref a_MergeError) = some (.type "type"))
    (e1_sMergeError : PySem.W.subIn K (.ref C1) (.ref a_MergeError) = some true)
    (ns0_1 : PySem.W.subIn K (.ref C0) (.ref C1) = some false)
    (a_is_integer : PySem.W.nsIn K mainGlobals "is_integer" = some (some (.ref f_is_integer)))
    (l_is_integer_ : K.lookup f_is_integer = some ⟨oc_is_integer, od_is_integer, .func (PySem.W.fnOf "is_integer" "is_integer" (defArgs s_is_integer) (defBody s_is_integer) (defScope s_is_integer) .none kV_is_integer dc_is_integer pm_is_integer an_is_integer cd_is_integer ct_is_integer), sl_is_integer⟩)
    (c_is_integer_ : PySem.W.codeIn K cd_is_integer "is_integer" = true)
    (k_is_integer_ : PySem.W.keepIn K (.ref f_is_integer) = true)
    (a_is_number : PySem.W.nsIn K mainGlobals "is_number" = some (some (.ref f_is_number)))
    (l_is_number_ : K.lookup f_is_number = some ⟨oc_is_number, od_is_number, .func (PySem.W.fnOf "is_number" "is_number" (defArgs s_is_number) (defBody s_is_number) (defScope s_is_number) .none kV_is_number dc_is_number pm_is_number an_is_number cd_is_number ct_is_number), sl_is_number⟩)
    (c_is_number_ : PySem.W.codeIn K cd_is_number "is_number" = true)
    (k_is_number_ : PySem.W.keepIn K (.ref f_is_number) = true)
    (a_is_number_below : PySem.W.nsIn K mainGlobals "is_number_below" = some (some (.ref f_is_number_below)))
    (l_is_number_below_ : K.lookup f_is_number_below = some ⟨oc_is_number_below, od_is_number_below, .func (PySem.W.fnOf "is_number_below" "is_number_below" (defArgs s_is_number_below) (defBody s_is_number_below) (defScope s_is_number_below) .none kV_is_number_below dc_is_number_below pm_is_number_below an_is_number_below cd_is_number_below ct_is_number_below), sl_is_number_below⟩)
    (c_is_number_below_ : PySem.W.codeIn K cd_is_number_below "is_number_below" = true)
    (k_is_number_below_ : PySem.W.keepIn K (.ref f_is_number_below) = true)
    (a_is_sequence : PySem.W.nsIn K mainGlobals "is_sequence" = some (some (.ref f_is_sequence)))
    (l_is_sequence_ : K.lookup f_is_sequence = some ⟨oc_is_sequence, od_is_sequence, .func (PySem.W.fnOf "is_sequence" "is_sequence" (defArgs s_is_sequence) (defBody s_is_sequence) (defScope s_is_sequence) .none kV_is_sequence dc_is_sequence pm_is_sequence an_is_sequence cd_is_sequence ct_is_sequence), sl_is_sequence⟩)
    (c_is_sequence_ : PySem.W.codeIn K cd_is_sequence "is_sequence" = true)
    (k_is_sequence_ : PySem.W.keepIn K (.ref f_is_sequence) = true)
    (a_is_row_of : PySem.W.nsIn K mainGlobals "is_row_of" = some (some (.ref f_is_row_of)))
    (l_is_row_of_ : K.lookup f_is_row_of = some ⟨oc_is_row_of, od_is_row_of, .func (PySem.W.fnOf "is_row_of" "is_row_of" (defArgs s_is_row_of) (defBody s_is_row_of) (defScope s_is_row_of) .none kV_is_row_of dc_is_row_of pm_is_row_of an_is_row_of cd_is_row_of ct_is_row_of), sl_is_row_of⟩)
    (c_is_row_of_ : PySem.W.codeIn K cd_is_row_of "is_row_of" = true)
    (k_is_row_of_ : PySem.W.keepIn K (.ref f_is_row_of) = true)
    (a_is_tuple_of : PySem.W.nsIn K mainGlobals "is_tuple_of" = some (some (.ref f_is_tuple_of)))
    (l_is_tuple_of_ : K.lookup f_is_tuple_of = some ⟨oc_is_tuple_of, od_is_tuple_of, .func (PySem.W.fnOf "is_tuple_of" "is_tuple_of" (defArgs s_is_tuple_of) (defBody s_is_tuple_of) (defScope s_is_tuple_of) .none kV_is_tuple_of dc_is_tuple_of pm_is_tuple_of an_is_tuple_of cd_is_tuple_of ct_is_tuple_of), sl_is_tuple_of⟩)
    (c_is_tuple_of_ : PySem.W.codeIn K cd_is_tuple_of "is_tuple_of" = true)
    (k_is_tuple_of_ : PySem.W.keepIn K (.ref f_is_tuple_of) = true)
    (a_is_letter : PySem.W.nsIn K mainGlobals "is_letter" = some (some (.ref f_is_letter)))
    (l_is_letter_ : K.lookup f_is_letter = some ⟨oc_is_letter, od_is_letter, .func (PySem.W.fnOf "is_letter" "is_letter" (defArgs s_is_letter) (defBody s_is_letter) (defScope s_is_letter) .none kV_is_letter dc_is_letter pm_is_letter an_is_letter cd_is_letter ct_is_letter), sl_is_letter⟩)
    (c_is_letter_ : PySem.W.codeIn K cd_is_letter "is_letter" = true)
    (k_is_letter_ : PySem.W.keepIn K (.ref f_is_letter) = true)
    (a_text_or_none : PySem.W.nsIn K mainGlobals "text_or_none" = some (some (.ref f_text_or_none)))
    (l_text_or_none_ : K.lookup f_text_or_none = some ⟨oc_text_or_none, od_text_or_none, .func (PySem.W.fnOf "text_or_none" "text_or_none" (defArgs s_text_or_none) (defBody s_text_or_none) (defScope s_text_or_none) .none kV_text_or_none dc_text_or_none pm_text_or_none an_text_or_none cd_text_or_none ct_text_or_none), sl_text_or_none⟩)
    (c_text_or_none_ : PySem.W.codeIn K cd_text_or_none "text_or_none" = true)
    (k_text_or_none_ : PySem.W.keepIn K (.ref f_text_or_none) = true)
    (a_need_text : PySem.W.nsIn K mainGlobals "need_text" = some (some (.ref f_need_text)))
    (l_need_text_ : K.lookup f_need_text = some ⟨oc_need_text, od_need_text, .func (PySem.W.fnOf "need_text" "need_text" (defArgs s_need_text) (defBody s_need_text) (defScope s_need_text) .none kV_need_text dc_need_text pm_need_text an_need_text cd_need_text ct_need_text), sl_need_text⟩)
    (c_need_text_ : PySem.W.codeIn K cd_need_text "need_text" = true)
    (k_need_text_ : PySem.W.keepIn K (.ref f_need_text) = true)
    (a_is_signed_letter : PySem.W.nsIn K mainGlobals "is_signed_letter" = some (some (.ref f_is_signed_letter)))
    (l_is_signed_letter_ : K.lookup f_is_signed_letter = some ⟨oc_is_signed_letter, od_is_signed_letter, .func (PySem.W.fnOf "is_signed_letter" "is_signed_letter" (defArgs s_is_signed_letter) (defBody s_is_signed_letter) (defScope s_is_signed_letter) .none kV_is_signed_letter dc_is_signed_letter pm_is_signed_letter an_is_signed_letter cd_is_signed_letter ct_is_signed_letter), sl_is_signed_letter⟩)
    (c_is_signed_letter_ : PySem.W.codeIn K cd_is_signed_letter "is_signed_letter" = true)
    (k_is_signed_letter_ : PySem.W.keepIn K (.ref f_is_signed_letter) = true)
    (a_need_word : PySem.W.nsIn K mainGlobals "need_word" = some (some (.ref f_need_word)))
    (l_need_word_ : K.lookup f_need_word = some ⟨oc_need_word, od_need_word, .func (PySem.W.fnOf "need_word" "need_word" (defArgs s_need_word) (defBody s_need_word) (defScope s_need_word) .none kV_need_word dc_need_word pm_need_word an_need_word cd_need_word ct_need_word), sl_need_word⟩)
    (c_need_word_ : PySem.W.codeIn K cd_need_word "need_word" = true)
    (k_need_word_ : PySem.W.keepIn K (.ref f_need_word) = true)
    (a_undo_each_other : PySem.W.nsIn K mainGlobals "undo_each_other" = some (some (.ref f_undo_each_other)))
    (l_undo_each_other_ : K.lookup f_undo_each_other = some ⟨oc_undo_each_other, od_undo_each_other, .func (PySem.W.fnOf "undo_each_other" "undo_each_other" (defArgs s_undo_each_other) (defBody s_undo_each_other) (defScope s_undo_each_other) .none kV_undo_each_other dc_undo_each_other pm_undo_each_other an_undo_each_other cd_undo_each_other ct_undo_each_other), sl_undo_each_other⟩)
    (c_undo_each_other_ : PySem.W.codeIn K cd_undo_each_other "undo_each_other" = true)
    (k_undo_each_other_ : PySem.W.keepIn K (.ref f_undo_each_other) = true)
    (a_struck : PySem.W.nsIn K mainGlobals "struck" = some (some (.ref f_struck)))
    (l_struck_ : K.lookup f_struck = some ⟨oc_struck, od_struck, .func (PySem.W.fnOf "struck" "struck" (defArgs s_struck) (defBody s_struck) (defScope s_struck) .none kV_struck dc_struck pm_struck an_struck cd_struck ct_struck), sl_struck⟩)
    (c_struck_ : PySem.W.codeIn K cd_struck "struck" = true)
    (k_struck_ : PySem.W.keepIn K (.ref f_struck) = true)
    (a_undone : PySem.W.nsIn K mainGlobals "undone" = some (some (.ref f_undone)))
    (l_undone_ : K.lookup f_undone = some ⟨oc_undone, od_undone, .func (PySem.W.fnOf "undone" "undone" (defArgs s_undone) (defBody s_undone) (defScope s_undone) .none kV_undone dc_undone pm_undone an_undone cd_undone ct_undone), sl_undone⟩)
    (c_undone_ : PySem.W.codeIn K cd_undone "undone" = true)
    (k_undone_ : PySem.W.keepIn K (.ref f_undone) = true)
    (a_strike_out : PySem.W.nsIn K mainGlobals "strike_out" = some (some (.ref f_strike_out)))
    (l_strike_out_ : K.lookup f_strike_out = some ⟨oc_strike_out, od_strike_out, .func (PySem.W.fnOf "strike_out" "strike_out" (defArgs s_strike_out) (defBody s_strike_out) (defScope s_strike_out) .none kV_strike_out dc_strike_out pm_strike_out an_strike_out cd_strike_out ct_strike_out), sl_strike_out⟩)
    (c_strike_out_ : PySem.W.codeIn K cd_strike_out "strike_out" = true)
    (k_strike_out_ : PySem.W.keepIn K (.ref f_strike_out) = true)
    (a_undo_word : PySem.W.nsIn K mainGlobals "undo_word" = some (some (.ref f_undo_word)))
    (l_undo_word_ : K.lookup f_undo_word = some ⟨oc_undo_word, od_undo_word, .func (PySem.W.fnOf "undo_word" "undo_word" (defArgs s_undo_word) (defBody s_undo_word) (defScope s_undo_word) .none kV_undo_word dc_undo_word pm_undo_word an_undo_word cd_undo_word ct_undo_word), sl_undo_word⟩)
    (c_undo_word_ : PySem.W.codeIn K cd_undo_word "undo_word" = true)
    (k_undo_word_ : PySem.W.keepIn K (.ref f_undo_word) = true)
    (a_join_words : PySem.W.nsIn K mainGlobals "join_words" = some (some (.ref f_join_words)))
    (l_join_words_ : K.lookup f_join_words = some ⟨oc_join_words, od_join_words, .func (PySem.W.fnOf "join_words" "join_words" (defArgs s_join_words) (defBody s_join_words) (defScope s_join_words) .none kV_join_words dc_join_words pm_join_words an_join_words cd_join_words ct_join_words), sl_join_words⟩)
    (c_join_words_ : PySem.W.codeIn K cd_join_words "join_words" = true)
    (k_join_words_ : PySem.W.keepIn K (.ref f_join_words) = true)
    (a_strike_pairs : PySem.W.nsIn K mainGlobals "strike_pairs" = some (some (.ref f_strike_pairs)))
    (l_strike_pairs_ : K.lookup f_strike_pairs = some ⟨oc_strike_pairs, od_strike_pairs, .func (PySem.W.fnOf "strike_pairs" "strike_pairs" (defArgs s_strike_pairs) (defBody s_strike_pairs) (defScope s_strike_pairs) .none kV_strike_pairs dc_strike_pairs pm_strike_pairs an_strike_pairs cd_strike_pairs ct_strike_pairs), sl_strike_pairs⟩)
    (c_strike_pairs_ : PySem.W.codeIn K cd_strike_pairs "strike_pairs" = true)
    (k_strike_pairs_ : PySem.W.keepIn K (.ref f_strike_pairs) = true)
    (a_partners_or_none : PySem.W.nsIn K mainGlobals "partners_or_none" = some (some (.ref f_partners_or_none)))
    (l_partners_or_none_ : K.lookup f_partners_or_none = some ⟨oc_partners_or_none, od_partners_or_none, .func (PySem.W.fnOf "partners_or_none" "partners_or_none" (defArgs s_partners_or_none) (defBody s_partners_or_none) (defScope s_partners_or_none) .none kV_partners_or_none dc_partners_or_none pm_partners_or_none an_partners_or_none cd_partners_or_none ct_partners_or_none), sl_partners_or_none⟩)
    (c_partners_or_none_ : PySem.W.codeIn K cd_partners_or_none "partners_or_none" = true)
    (k_partners_or_none_ : PySem.W.keepIn K (.ref f_partners_or_none) = true)
    (a_strikes_hold : PySem.W.nsIn K mainGlobals "strikes_hold" = some (some (.ref f_strikes_hold)))
    (l_strikes_hold_ : K.lookup f_strikes_hold = some ⟨oc_strikes_hold, od_strikes_hold, .func (PySem.W.fnOf "strikes_hold" "strikes_hold" (defArgs s_strikes_hold) (defBody s_strikes_hold) (defScope s_strikes_hold) .none kV_strikes_hold dc_strikes_hold pm_strikes_hold an_strikes_hold cd_strikes_hold ct_strikes_hold), sl_strikes_hold⟩)
    (c_strikes_hold_ : PySem.W.codeIn K cd_strikes_hold "strikes_hold" = true)
    (k_strikes_hold_ : PySem.W.keepIn K (.ref f_strikes_hold) = true)
    (a_word_of : PySem.W.nsIn K mainGlobals "word_of" = some (some (.ref f_word_of)))
    (l_word_of_ : K.lookup f_word_of = some ⟨oc_word_of, od_word_of, .func (PySem.W.fnOf "word_of" "word_of" (defArgs s_word_of) (defBody s_word_of) (defScope s_word_of) .none kV_word_of dc_word_of pm_word_of an_word_of cd_word_of ct_word_of), sl_word_of⟩)
    (c_word_of_ : PySem.W.codeIn K cd_word_of "word_of" = true)
    (k_word_of_ : PySem.W.keepIn K (.ref f_word_of) = true)
    (a_text_of : PySem.W.nsIn K mainGlobals "text_of" = some (some (.ref f_text_of)))
    (l_text_of_ : K.lookup f_text_of = some ⟨oc_text_of, od_text_of, .func (PySem.W.fnOf "text_of" "text_of" (defArgs s_text_of) (defBody s_text_of) (defScope s_text_of) .none kV_text_of dc_text_of pm_text_of an_text_of cd_text_of ct_text_of), sl_text_of⟩)
    (c_text_of_ : PySem.W.codeIn K cd_text_of "text_of" = true)
    (k_text_of_ : PySem.W.keepIn K (.ref f_text_of) = true)
    (a_text_word : PySem.W.nsIn K mainGlobals "text_word" = some (some (.ref f_text_word)))
    (l_text_word_ : K.lookup f_text_word = some ⟨oc_text_word, od_text_word, .func (PySem.W.fnOf "text_word" "text_word" (defArgs s_text_word) (defBody s_text_word) (defScope s_text_word) .none kV_text_word dc_text_word pm_text_word an_text_word cd_text_word ct_text_word), sl_text_word⟩)
    (c_text_word_ : PySem.W.codeIn K cd_text_word "text_word" = true)
    (k_text_word_ : PySem.W.keepIn K (.ref f_text_word) = true)
    (a_word_text : PySem.W.nsIn K mainGlobals "word_text" = some (some (.ref f_word_text)))
    (l_word_text_ : K.lookup f_word_text = some ⟨oc_word_text, od_word_text, .func (PySem.W.fnOf "word_text" "word_text" (defArgs s_word_text) (defBody s_word_text) (defScope s_word_text) .none kV_word_text dc_word_text pm_word_text an_word_text cd_word_text ct_word_text), sl_word_text⟩)
    (c_word_text_ : PySem.W.codeIn K cd_word_text "word_text" = true)
    (k_word_text_ : PySem.W.keepIn K (.ref f_word_text) = true)
    (a_law_box : PySem.W.nsIn K mainGlobals "_law_box" = some (some (.ref f_law_box)))
    (l_law_box_ : K.lookup f_law_box = some ⟨oc_law_box, od_law_box, .func (PySem.W.fnOf "_law_box" "_law_box" (defArgs s_law_box) (defBody s_law_box) (defScope s_law_box) .none kV_law_box dc_law_box pm_law_box an_law_box cd_law_box ct_law_box), sl_law_box⟩)
    (c_law_box_ : PySem.W.codeIn K cd_law_box "_law_box" = true)
    (k_law_box_ : PySem.W.keepIn K (.ref f_law_box) = true)
    (a_law_take : PySem.W.nsIn K mainGlobals "_law_take" = some (some (.ref f_law_take)))
    (l_law_take_ : K.lookup f_law_take = some ⟨oc_law_take, od_law_take, .func (PySem.W.fnOf "_law_take" "_law_take" (defArgs s_law_take) (defBody s_law_take) (defScope s_law_take) .none kV_law_take dc_law_take pm_law_take an_law_take cd_law_take ct_law_take), sl_law_take⟩)
    (c_law_take_ : PySem.W.codeIn K cd_law_take "_law_take" = true)
    (k_law_take_ : PySem.W.keepIn K (.ref f_law_take) = true)
    (a_law_pick : PySem.W.nsIn K mainGlobals "_law_pick" = some (some (.ref f_law_pick)))
    (l_law_pick_ : K.lookup f_law_pick = some ⟨oc_law_pick, od_law_pick, .func (PySem.W.fnOf "_law_pick" "_law_pick" (defArgs s_law_pick) (defBody s_law_pick) (defScope s_law_pick) .none kV_law_pick dc_law_pick pm_law_pick an_law_pick cd_law_pick ct_law_pick), sl_law_pick⟩)
    (c_law_pick_ : PySem.W.codeIn K cd_law_pick "_law_pick" = true)
    (k_law_pick_ : PySem.W.keepIn K (.ref f_law_pick) = true)
    (a_law_word : PySem.W.nsIn K mainGlobals "_law_word" = some (some (.ref f_law_word)))
    (l_law_word_ : K.lookup f_law_word = some ⟨oc_law_word, od_law_word, .func (PySem.W.fnOf "_law_word" "_law_word" (defArgs s_law_word) (defBody s_law_word) (defScope s_law_word) .none kV_law_word dc_law_word pm_law_word an_law_word cd_law_word ct_law_word), sl_law_word⟩)
    (c_law_word_ : PySem.W.codeIn K cd_law_word "_law_word" = true)
    (k_law_word_ : PySem.W.keepIn K (.ref f_law_word) = true)
    (a_law_struck : PySem.W.nsIn K mainGlobals "_law_struck" = some (some (.ref f_law_struck)))
    (l_law_struck_ : K.lookup f_law_struck = some ⟨oc_law_struck, od_law_struck, .func (PySem.W.fnOf "_law_struck" "_law_struck" (defArgs s_law_struck) (defBody s_law_struck) (defScope s_law_struck) .none kV_law_struck dc_law_struck pm_law_struck an_law_struck cd_law_struck ct_law_struck), sl_law_struck⟩)
    (c_law_struck_ : PySem.W.codeIn K cd_law_struck "_law_struck" = true)
    (k_law_struck_ : PySem.W.keepIn K (.ref f_law_struck) = true)
    (a_law_pairs_right : PySem.W.nsIn K mainGlobals "_law_pairs_right" = some (some (.ref f_law_pairs_right)))
    (l_law_pairs_right_ : K.lookup f_law_pairs_right = some ⟨oc_law_pairs_right, od_law_pairs_right, .func (PySem.W.fnOf "_law_pairs_right" "_law_pairs_right" (defArgs s_law_pairs_right) (defBody s_law_pairs_right) (defScope s_law_pairs_right) .none kV_law_pairs_right dc_law_pairs_right pm_law_pairs_right an_law_pairs_right cd_law_pairs_right ct_law_pairs_right), sl_law_pairs_right⟩)
    (c_law_pairs_right_ : PySem.W.codeIn K cd_law_pairs_right "_law_pairs_right" = true)
    (k_law_pairs_right_ : PySem.W.keepIn K (.ref f_law_pairs_right) = true)
    (a_law_spoilt : PySem.W.nsIn K mainGlobals "_law_spoilt" = some (some (.ref f_law_spoilt)))
    (l_law_spoilt_ : K.lookup f_law_spoilt = some ⟨oc_law_spoilt, od_law_spoilt, .func (PySem.W.fnOf "_law_spoilt" "_law_spoilt" (defArgs s_law_spoilt) (defBody s_law_spoilt) (defScope s_law_spoilt) .none kV_law_spoilt dc_law_spoilt pm_law_spoilt an_law_spoilt cd_law_spoilt ct_law_spoilt), sl_law_spoilt⟩)
    (c_law_spoilt_ : PySem.W.codeIn K cd_law_spoilt "_law_spoilt" = true)
    (k_law_spoilt_ : PySem.W.keepIn K (.ref f_law_spoilt) = true)
    (a_law_refused : PySem.W.nsIn K mainGlobals "_law_refused" = some (some (.ref f_law_refused)))
    (l_law_refused_ : K.lookup f_law_refused = some ⟨oc_law_refused, od_law_refused, .func (PySem.W.fnOf "_law_refused" "_law_refused" (defArgs s_law_refused) (defBody s_law_refused) (defScope s_law_refused) .none kV_law_refused dc_law_refused pm_law_refused an_law_refused cd_law_refused ct_law_refused), sl_law_refused⟩)
    (c_law_refused_ : PySem.W.codeIn K cd_law_refused "_law_refused" = true)
    (k_law_refused_ : PySem.W.keepIn K (.ref f_law_refused) = true)
    (a_law_refusals_right : PySem.W.nsIn K mainGlobals "_law_refusals_right" = some (some (.ref f_law_refusals_right)))
    (l_law_refusals_right_ : K.lookup f_law_refusals_right = some ⟨oc_law_refusals_right, od_law_refusals_right, .func (PySem.W.fnOf "_law_refusals_right" "_law_refusals_right" (defArgs s_law_refusals_right) (defBody s_law_refusals_right) (defScope s_law_refusals_right) .none kV_law_refusals_right dc_law_refusals_right pm_law_refusals_right an_law_refusals_right cd_law_refusals_right ct_law_refusals_right), sl_law_refusals_right⟩)
    (c_law_refusals_right_ : PySem.W.codeIn K cd_law_refusals_right "_law_refusals_right" = true)
    (k_law_refusals_right_ : PySem.W.keepIn K (.ref f_law_refusals_right) = true)
    (a_law_word_right : PySem.W.nsIn K mainGlobals "_law_word_right" = some (some (.ref f_law_word_right)))
    (l_law_word_right_ : K.lookup f_law_word_right = some ⟨oc_law_word_right, od_law_word_right, .func (PySem.W.fnOf "_law_word_right" "_law_word_right" (defArgs s_law_word_right) (defBody s_law_word_right) (defScope s_law_word_right) .none kV_law_word_right dc_law_word_right pm_law_word_right an_law_word_right cd_law_word_right ct_law_word_right), sl_law_word_right⟩)
    (c_law_word_right_ : PySem.W.codeIn K cd_law_word_right "_law_word_right" = true)
    (k_law_word_right_ : PySem.W.keepIn K (.ref f_law_word_right) = true)
    (a_law : PySem.W.nsIn K mainGlobals "law" = some (some (.ref f_law)))
    (l_law_ : K.lookup f_law = some ⟨oc_law, od_law, .func (PySem.W.fnOf "law" "law" (defArgs s_law) (defBody s_law) (defScope s_law) .none kV_law dc_law pm_law an_law cd_law ct_law), sl_law⟩)
    (c_law_ : PySem.W.codeIn K cd_law "law" = true)
    (k_law_ : PySem.W.keepIn K (.ref f_law) = true)
    : ∃ fd : FuncData, (∀ (s : Shared) (u : Value), BindsTo s fd ⟨[u], []⟩ [("script", u)]) ∧ ∃ sp : Sp, (∀ (H : Hp) (a : Addr) (ns : List Int), ns.length ≤ 63 → SqL K H a (ns.map V.int) → sp [.ref a] H (fun v _ => v = .bl true) fun _ _ _ => False) ∧
      ∀ base : Heap, K.In base → base.Ns mainGlobals mg → FnG P w K mg base 10 fa fd ["script"] sp := by
  have e := hfa.symm.trans (PySem.W.mg_of X G a_law)
  have e2 : f_law = fa := by cases e; rfl
  subst e2
  have F_is_integer := fun_mk (st := s_is_integer) l_is_integer_ c_is_integer_ k_is_integer_
  have b_is_integer := F_is_integer.binds (ps := ["value"]) fun _ _ _ _ _ _ us hl => match us, hl with | [_], _ => rfl
  have F_is_number := fun_mk (st := s_is_number) l_is_number_ c_is_number_ k_is_number_
  have b_is_number := F_is_number.binds (ps := ["value"]) fun _ _ _ _ _ _ us hl => match us, hl with | [_], _ => rfl
  have F_is_number_below := fun_mk (st := s_is_number_below) l_is_number_below_ c_is_number_below_ k_is_number_below_
  have b_is_number_below := F_is_number_below.binds (ps := ["value", "limit"]) fun _ _ _ _ _ _ us hl => match us, hl with | [_, _], _ => rfl
  have F_is_sequence := fun_mk (st := s_is_sequence) l_is_sequence_ c_is_sequence_ k_is_sequence_
  have b_is_sequence := F_is_sequence.binds (ps := ["value"]) fun _ _ _ _ _ _ us hl => match us, hl with | [_], _ => rfl
  have F_is_row_of := fun_mk (st := s_is_row_of) l_is_row_of_ c_is_row_of_ k_is_row_of_
  have b_is_row_of := F_is_row_of.binds (ps := ["value", "many"]) fun _ _ _ _ _ _ us hl => match us, hl with | [_, _], _ => rfl
  have F_is_tuple_of := fun_mk (st := s_is_tuple_of) l_is_tuple_of_ c_is_tuple_of_ k_is_tuple_of_
  have b_is_tuple_of := F_is_tuple_of.binds (ps := ["value", "many"]) fun _ _ _ _ _ _ us hl => match us, hl with | [_, _], _ => rfl
  have F_is_letter := fun_mk (st := s_is_letter) l_is_letter_ c_is_letter_ k_is_letter_
  have b_is_letter := F_is_letter.binds (ps := ["value"]) fun _ _ _ _ _ _ us hl => match us, hl with | [_], _ => rfl
  have F_text_or_none := fun_mk (st := s_text_or_none) l_text_or_none_ c_text_or_none_ k_text_or_none_
  have b_text_or_none := F_text_or_none.binds (ps := ["value"]) fun _ _ _ _ _ _ us hl => match us, hl with | [_], _ => rfl
  have F_need_text := fun_mk (st := s_need_text) l_need_text_ c_need_text_ k_need_text_
  have b_need_text := F_need_text.binds (ps := ["value", "at"]) fun _ _ _ _ _ _ us hl => match us, hl with | [_, _], _ => rfl
  have F_is_signed_letter := fun_mk (st := s_is_signed_letter) l_is_signed_letter_ c_is_signed_letter_ k_is_signed_letter_
  have b_is_signed_letter := F_is_signed_letter.binds (ps := ["value"]) fun _ _ _ _ _ _ us hl => match us, hl with | [_], _ => rfl
  have F_need_word := fun_mk (st := s_need_word) l_need_word_ c_need_word_ k_need_word_
  have b_need_word := F_need_word.binds (ps := ["value", "at"]) fun _ _ _ _ _ _ us hl => match us, hl with | [_, _], _ => rfl
  have F_undo_each_other := fun_mk (st := s_undo_each_other) l_undo_each_other_ c_undo_each_other_ k_undo_each_other_
  have b_undo_each_other := F_undo_each_other.binds (ps := ["one", "other"]) fun _ _ _ _ _ _ us hl => match us, hl with | [_, _], _ => rfl
  have F_struck := fun_mk (st := s_struck) l_struck_ c_struck_ k_struck_
  have b_struck := F_struck.binds (ps := ["word"]) fun _ _ _ _ _ _ us hl => match us, hl with | [_], _ => rfl
  have F_undone := fun_mk (st := s_undone) l_undone_ c_undone_ k_undone_
  have b_undone := F_undone.binds (ps := ["word"]) fun _ _ _ _ _ _ us hl => match us, hl with | [_], _ => rfl
  have F_strike_out := fun_mk (st := s_strike_out) l_strike_out_ c_strike_out_ k_strike_out_
  have b_strike_out := F_strike_out.binds (ps := ["word"]) fun _ _ _ _ _ _ us hl => match us, hl with | [_], _ => rfl
  have F_undo_word := fun_mk (st := s_undo_word) l_undo_word_ c_undo_word_ k_undo_word_
  have b_undo_word := F_undo_word.binds (ps := ["word"]) fun _ _ _ _ _ _ us hl => match us, hl with | [_], _ => rfl
  have F_join_words := fun_mk (st := s_join_words) l_join_words_ c_join_words_ k_join_words_
  have b_join_words := F_join_words.binds (ps := ["one", "other"]) fun _ _ _ _ _ _ us hl => match us, hl with | [_, _], _ => rfl
  have F_strike_pairs := fun_mk (st := s_strike_pairs) l_strike_pairs_ c_strike_pairs_ k_strike_pairs_
  have b_strike_pairs := F_strike_pairs.binds (ps := ["word"]) fun _ _ _ _ _ _ us hl => match us, hl with | [_], _ => rfl
  have F_partners_or_none := fun_mk (st := s_partners_or_none) l_partners_or_none_ c_partners_or_none_ k_partners_or_none_
  have b_partners_or_none := F_partners_or_none.binds (ps := ["word", "value"]) fun _ _ _ _ _ _ us hl => match us, hl with | [_, _], _ => rfl
  have F_strikes_hold := fun_mk (st := s_strikes_hold) l_strikes_hold_ c_strikes_hold_ k_strikes_hold_
  have b_strikes_hold := F_strikes_hold.binds (ps := ["word", "value"]) fun _ _ _ _ _ _ us hl => match us, hl with | [_, _], _ => rfl
  have F_word_of := fun_mk (st := s_word_of) l_word_of_ c_word_of_ k_word_of_
  have b_word_of := F_word_of.binds (ps := ["text"]) fun _ _ _ _ _ _ us hl => match us, hl with | [_], _ => rfl
  have F_text_of := fun_mk (st := s_text_of) l_text_of_ c_text_of_ k_text_of_
  have b_text_of := F_text_of.binds (ps := ["word"]) fun _ _ _ _ _ _ us hl => match us, hl with | [_], _ => rfl
  have F_text_word := fun_mk (st := s_text_word) l_text_word_ c_text_word_ k_text_word_
  have b_text_word := F_text_word.binds (ps := ["text"]) fun _ _ _ _ _ _ us hl => match us, hl with | [_], _ => rfl
  have F_word_text := fun_mk (st := s_word_text) l_word_text_ c_word_text_ k_word_text_
  have b_word_text := F_word_text.binds (ps := ["word"]) fun _ _ _ _ _ _ us hl => match us, hl with | [_], _ => rfl
  have F_law_box := fun_mk (st := s_law_box) l_law_box_ c_law_box_ k_law_box_
  have b_law_box := F_law_box.binds (ps := ["script", "k"]) fun _ _ _ _ _ _ us hl => match us, hl with | [_, _], _ => rfl
  have F_law_take := fun_mk (st := s_law_take) l_law_take_ c_law_take_ k_law_take_
  have b_law_take := F_law_take.binds (ps := ["box", "many"]) fun _ _ _ _ _ _ us hl => match us, hl with | [_, _], _ => rfl
  have F_law_pick := fun_mk (st := s_law_pick) l_law_pick_ c_law_pick_ k_law_pick_
  have b_law_pick := F_law_pick.binds (ps := ["box", "some"]) fun _ _ _ _ _ _ us hl => match us, hl with | [_, _], _ => rfl
  have F_law_word := fun_mk (st := s_law_word) l_law_word_ c_law_word_ k_law_word_
  have b_law_word := F_law_word.binds (ps := ["box", "letters"]) fun _ _ _ _ _ _ us hl => match us, hl with | [_, _], _ => rfl
  have F_law_struck := fun_mk (st := s_law_struck) l_law_struck_ c_law_struck_ k_law_struck_
  have b_law_struck := F_law_struck.binds (ps := ["box", "word"]) fun _ _ _ _ _ _ us hl => match us, hl with | [_, _], _ => rfl
  have F_law_pairs_right := fun_mk (st := s_law_pairs_right) l_law_pairs_right_ c_law_pairs_right_ k_law_pairs_right_
  have b_law_pairs_right := F_law_pairs_right.binds (ps := ["word", "pairs"]) fun _ _ _ _ _ _ us hl => match us, hl with | [_, _], _ => rfl
  have F_law_spoilt := fun_mk (st := s_law_spoilt) l_law_spoilt_ c_law_spoilt_ k_law_spoilt_
  have b_law_spoilt := F_law_spoilt.binds (ps := ["box", "many", "pairs"]) fun _ _ _ _ _ _ us hl => match us, hl with | [_, _, _], _ => rfl
  have F_law_refused := fun_mk (st := s_law_refused) l_law_refused_ c_law_refused_ k_law_refused_
  have b_law_refused := F_law_refused.binds (ps := ["call", "value"]) fun _ _ _ _ _ _ us hl => match us, hl with | [_, _], _ => rfl
  have F_law_refusals_right := fun_mk (st := s_law_refusals_right) l_law_refusals_right_ c_law_refusals_right_ k_law_refusals_right_
  have b_law_refusals_right := F_law_refusals_right.binds (ps := ["box", "word"]) fun _ _ _ _ _ _ us hl => match us, hl with | [_, _], _ => rfl
  have F_law_word_right := fun_mk (st := s_law_word_right) l_law_word_right_ c_law_word_right_ k_law_word_right_
  have b_law_word_right := F_law_word_right.binds (ps := ["box", "word"]) fun _ _ _ _ _ _ us hl => match us, hl with | [_, _], _ => rfl
  have F_law := fun_mk (st := s_law) l_law_ c_law_ k_law_
  have b_law := F_law.binds (ps := ["script"]) fun _ _ _ _ _ _ us hl => match us, hl with | [_], _ => rfl
  have x_kb_strike_out_0_word := kb_of (ps := ["word"]) (ks := ["word"]) F_strike_out [0] 0 1 (by decide) fun _ _ _ _ _ _ us ws h1 h2 => match us, h1, ws, h2 with | [], _, [_], _ => rfl
  have x_kb_undo_word_0_word := kb_of (ps := ["word"]) (ks := ["word"]) F_undo_word [0] 0 1 (by decide) fun _ _ _ _ _ _ us ws h1 h2 => match us, h1, ws, h2 with | [], _, [_], _ => rfl
  have x_kb_join_words_0_one_other := kb_of (ps := ["one", "other"]) (ks := ["one", "other"]) F_join_words [0, 1] 0 2 (by decide) fun _ _ _ _ _ _ us ws h1 h2 => match us, h1, ws, h2 with | [], _, [_, _], _ => rfl
  have x_kb_strike_pairs_0_word := kb_of (ps := ["word"]) (ks := ["word"]) F_strike_pairs [0] 0 1 (by decide) fun _ _ _ _ _ _ us ws h1 h2 => match us, h1, ws, h2 with | [], _, [_], _ => rfl
  have x_kb_strikes_hold_0_word_value := kb_of (ps := ["word", "value"]) (ks := ["word", "value"]) F_strikes_hold [0, 1] 0 2 (by decide) fun _ _ _ _ _ _ us ws h1 h2 => match us, h1, ws, h2 with | [], _, [_, _], _ => rfl
  have x_kb_word_text_0_word := kb_of (ps := ["word"]) (ks := ["word"]) F_word_text [0] 0 1 (by decide) fun _ _ _ _ _ _ us ws h1 h2 => match us, h1, ws, h2 with | [], _, [_], _ => rfl
  have x_kb_text_word_0_text := kb_of (ps := ["text"]) (ks := ["text"]) F_text_word [0] 0 1 (by decide) fun _ _ _ _ _ _ us ws h1 h2 => match us, h1, ws, h2 with | [], _, [_], _ => rfl
  let T : Tx K mg := {
    xc := fun i => match i with | 0 => C0 | 1 => C1 | _ => 0,
    m_abs := PySem.W.mg_none_of X G z_abs,
    m_any := PySem.W.mg_none_of X G z_any,
    m_bool := PySem.W.mg_none_of X G z_bool,
    m_enumerate := PySem.W.mg_none_of X G z_enumerate,
    m_int := PySem.W.mg_none_of X G z_int,
    m_isinstance := PySem.W.mg_none_of X G z_isinstance,
    m_len := PySem.W.mg_none_of X G z_len,
    m_list := PySem.W.mg_none_of X G z_list,
    m_max := PySem.W.mg_none_of X G z_max,
    m_min := PySem.W.mg_none_of X G z_min,
    m_range := PySem.W.mg_none_of X G z_range,
    m_repr := PySem.W.mg_none_of X G z_repr,
    m_set := PySem.W.mg_none_of X G z_set,
    m_sorted := PySem.W.mg_none_of X G z_sorted,
    m_tuple := PySem.W.mg_none_of X G z_tuple,
    a_MergeError := a_MergeError,
    gB_MergeError := PySem.W.mg_of X G hB_MergeError,
    C0 := C0,
    B0 := B0,
    f0 := f0,
    e0 := { gC := PySem.W.mg_of X G e0_g, cls := ⟨nm0, q0, N0, bs0, sn0, sub0, ab0, col0, dd0, y00, y01, y02, y03, y05, e0_l⟩, sa := e0_sa, ga := e0_ga, gg := e0_gg, noN := e0_no, iC := e0_i, tC := e0_t, kC := e0_k, exC := e0_ex, tyC := e0_ty, hdC := e0_hd, te := exm_self e0_ex e0_ic e0_ty e0_ss, fn := ⟨_, _, _, _, _, _, _, _, _, _, _, _, _, _, e0_lf, e0_cf⟩ },
    xe0 := rfl,
    c0 := ⟨e0_ga, e0_gg, e0_ex, e0_hd, e0_ca, e0_cn, e0_ct, e0_cm⟩,
    k0_MergeError := kit_sub e0_iMergeError e0_tMergeError e0_sMergeError,
    C1 := C1,
    B1 := B1,
    f1 := f1,
    e1 := { gC := PySem.W.mg_of X G e1_g, cls := ⟨nm1, q1, N1, bs1, sn1, sub1, ab1, col1, dd1, y10, y11, y12, y13, y15, e1_l⟩, sa := e1_sa, ga := e1_ga, gg := e1_gg, noN := e1_no, iC := e1_i, tC := e1_t, kC := e1_k, exC := e1_ex, tyC := e1_ty, hdC := e1_hd, te := exm_self e1_ex e1_ic e1_ty e1_ss, fn := ⟨_, _, _, _, _, _, _, _, _, _, _, _, _, _, e1_lf, e1_cf⟩ },
    xe1 := rfl,
    c1 := ⟨e1_ga, e1_gg, e1_ex, e1_hd, e1_ca, e1_cn, e1_ct, e1_cm⟩,
    k1_MergeError := kit_sub e1_iMergeError e1_tMergeError e1_sMergeError,
    n0_1 := exm_not e1_ex e1_ic e1_ty ns0_1,
    a_is_integer := f_is_integer,
    d_is_integer := PySem.W.fnOf "is_integer" "is_integer" (defArgs s_is_integer) (defBody s_is_integer) (defScope s_is_integer) .none kV_is_integer dc_is_integer pm_is_integer an_is_integer cd_is_integer ct_is_integer,
    F_is_integer := F_is_integer,
    g_is_integer := PySem.W.mg_of X G a_is_integer,
    b_is_integer := b_is_integer,
    a_is_number := f_is_number,
    d_is_number := PySem.W.fnOf "is_number" "is_number" (defArgs s_is_number) (defBody s_is_number) (defScope s_is_number) .none kV_is_number dc_is_number pm_is_number an_is_number cd_is_number ct_is_number,
    F_is_number := F_is_number,
    g_is_number := PySem.W.mg_of X G a_is_number,
    b_is_number := b_is_number,
    a_is_number_below := f_is_number_below,
    d_is_number_below := PySem.W.fnOf "is_number_below" "is_number_below" (defArgs s_is_number_below) (defBody s_is_number_below) (defScope s_is_number_below) .none kV_is_number_below dc_is_number_below pm_is_number_below an_is_number_below cd_is_number_below ct_is_number_below,
    F_is_number_below := F_is_number_below,
    g_is_number_below := PySem.W.mg_of X G a_is_number_below,
    b_is_number_below := b_is_number_below,
    a_is_sequence := f_is_sequence,
    d_is_sequence := PySem.W.fnOf "is_sequence" "is_sequence" (defArgs s_is_sequence) (defBody s_is_sequence) (defScope s_is_sequence) .none kV_is_sequence dc_is_sequence pm_is_sequence an_is_sequence cd_is_sequence ct_is_sequence,
    F_is_sequence := F_is_sequence,
    g_is_sequence := PySem.W.mg_of X G a_is_sequence,
    b_is_sequence := b_is_sequence,
    a_is_row_of := f_is_row_of,
    d_is_row_of := PySem.W.fnOf "is_row_of" "is_row_of" (defArgs s_is_row_of) (defBody s_is_row_of) (defScope s_is_row_of) .none kV_is_row_of dc_is_row_of pm_is_row_of an_is_row_of cd_is_row_of ct_is_row_of,
    F_is_row_of := F_is_row_of,
    g_is_row_of := PySem.W.mg_of X G a_is_row_of,
    b_is_row_of := b_is_row_of,
    a_is_tuple_of := f_is_tuple_of,
    d_is_tuple_of := PySem.W.fnOf "is_tuple_of" "is_tuple_of" (defArgs s_is_tuple_of) (defBody s_is_tuple_of) (defScope s_is_tuple_of) .none kV_is_tuple_of dc_is_tuple_of pm_is_tuple_of an_is_tuple_of cd_is_tuple_of ct_is_tuple_of,
    F_is_tuple_of := F_is_tuple_of,
    g_is_tuple_of := PySem.W.mg_of X G a_is_tuple_of,
    b_is_tuple_of := b_is_tuple_of,
    a_is_letter := f_is_letter,
    d_is_letter := PySem.W.fnOf "is_letter" "is_letter" (defArgs s_is_letter) (defBody s_is_letter) (defScope s_is_letter) .none kV_is_letter dc_is_letter pm_is_letter an_is_letter cd_is_letter ct_is_letter,
    F_is_letter := F_is_letter,
    g_is_letter := PySem.W.mg_of X G a_is_letter,
    b_is_letter := b_is_letter,
    a_text_or_none := f_text_or_none,
    d_text_or_none := PySem.W.fnOf "text_or_none" "text_or_none" (defArgs s_text_or_none) (defBody s_text_or_none) (defScope s_text_or_none) .none kV_text_or_none dc_text_or_none pm_text_or_none an_text_or_none cd_text_or_none ct_text_or_none,
    F_text_or_none := F_text_or_none,
    g_text_or_none := PySem.W.mg_of X G a_text_or_none,
    b_text_or_none := b_text_or_none,
    a_need_text := f_need_text,
    d_need_text := PySem.W.fnOf "need_text" "need_text" (defArgs s_need_text) (defBody s_need_text) (defScope s_need_text) .none kV_need_text dc_need_text pm_need_text an_need_text cd_need_text ct_need_text,
    F_need_text := F_need_text,
    g_need_text := PySem.W.mg_of X G a_need_text,
    b_need_text := b_need_text,
    a_is_signed_letter := f_is_signed_letter,
    d_is_signed_letter := PySem.W.fnOf "is_signed_letter" "is_signed_letter" (defArgs s_is_signed_letter) (defBody s_is_signed_letter) (defScope s_is_signed_letter) .none kV_is_signed_letter dc_is_signed_letter pm_is_signed_letter an_is_signed_letter cd_is_signed_letter ct_is_signed_letter,
    F_is_signed_letter := F_is_signed_letter,
    g_is_signed_letter := PySem.W.mg_of X G a_is_signed_letter,
    b_is_signed_letter := b_is_signed_letter,
    a_need_word := f_need_word,
    d_need_word := PySem.W.fnOf "need_word" "need_word" (defArgs s_need_word) (defBody s_need_word) (defScope s_need_word) .none kV_need_word dc_need_word pm_need_word an_need_word cd_need_word ct_need_word,
    F_need_word := F_need_word,
    g_need_word := PySem.W.mg_of X G a_need_word,
    b_need_word := b_need_word,
    a_undo_each_other := f_undo_each_other,
    d_undo_each_other := PySem.W.fnOf "undo_each_other" "undo_each_other" (defArgs s_undo_each_other) (defBody s_undo_each_other) (defScope s_undo_each_other) .none kV_undo_each_other dc_undo_each_other pm_undo_each_other an_undo_each_other cd_undo_each_other ct_undo_each_other,
    F_undo_each_other := F_undo_each_other,
    g_undo_each_other := PySem.W.mg_of X G a_undo_each_other,
    b_undo_each_other := b_undo_each_other,
    a_struck := f_struck,
    d_struck := PySem.W.fnOf "struck" "struck" (defArgs s_struck) (defBody s_struck) (defScope s_struck) .none kV_struck dc_struck pm_struck an_struck cd_struck ct_struck,
    F_struck := F_struck,
    g_struck := PySem.W.mg_of X G a_struck,
    b_struck := b_struck,
    a_undone := f_undone,
    d_undone := PySem.W.fnOf "undone" "undone" (defArgs s_undone) (defBody s_undone) (defScope s_undone) .none kV_undone dc_undone pm_undone an_undone cd_undone ct_undone,
    F_undone := F_undone,
    g_undone := PySem.W.mg_of X G a_undone,
    b_undone := b_undone,
    a_strike_out := f_strike_out,
    d_strike_out := PySem.W.fnOf "strike_out" "strike_out" (defArgs s_strike_out) (defBody s_strike_out) (defScope s_strike_out) .none kV_strike_out dc_strike_out pm_strike_out an_strike_out cd_strike_out ct_strike_out,
    F_strike_out := F_strike_out,
    g_strike_out := PySem.W.mg_of X G a_strike_out,
    b_strike_out := b_strike_out,
    a_undo_word := f_undo_word,
    d_undo_word := PySem.W.fnOf "undo_word" "undo_word" (defArgs s_undo_word) (defBody s_undo_word) (defScope s_undo_word) .none kV_undo_word dc_undo_word pm_undo_word an_undo_word cd_undo_word ct_undo_word,
    F_undo_word := F_undo_word,
    g_undo_word := PySem.W.mg_of X G a_undo_word,
    b_undo_word := b_undo_word,
    a_join_words := f_join_words,
    d_join_words := PySem.W.fnOf "join_words" "join_words" (defArgs s_join_words) (defBody s_join_words) (defScope s_join_words) .none kV_join_words dc_join_words pm_join_words an_join_words cd_join_words ct_join_words,
    F_join_words := F_join_words,
    g_join_words := PySem.W.mg_of X G a_join_words,
    b_join_words := b_join_words,
    a_strike_pairs := f_strike_pairs,
    d_strike_pairs := PySem.W.fnOf "strike_pairs" "strike_pairs" (defArgs s_strike_pairs) (defBody s_strike_pairs) (defScope s_strike_pairs) .none kV_strike_pairs dc_strike_pairs pm_strike_pairs an_strike_pairs cd_strike_pairs ct_strike_pairs,
    F_strike_pairs := F_strike_pairs,
    g_strike_pairs := PySem.W.mg_of X G a_strike_pairs,
    b_strike_pairs := b_strike_pairs,
    a_partners_or_none := f_partners_or_none,
    d_partners_or_none := PySem.W.fnOf "partners_or_none" "partners_or_none" (defArgs s_partners_or_none) (defBody s_partners_or_none) (defScope s_partners_or_none) .none kV_partners_or_none dc_partners_or_none pm_partners_or_none an_partners_or_none cd_partners_or_none ct_partners_or_none,
    F_partners_or_none := F_partners_or_none,
    g_partners_or_none := PySem.W.mg_of X G a_partners_or_none,
    b_partners_or_none := b_partners_or_none,
    a_strikes_hold := f_strikes_hold,
    d_strikes_hold := PySem.W.fnOf "strikes_hold" "strikes_hold" (defArgs s_strikes_hold) (defBody s_strikes_hold) (defScope s_strikes_hold) .none kV_strikes_hold dc_strikes_hold pm_strikes_hold an_strikes_hold cd_strikes_hold ct_strikes_hold,
    F_strikes_hold := F_strikes_hold,
    g_strikes_hold := PySem.W.mg_of X G a_strikes_hold,
    b_strikes_hold := b_strikes_hold,
    a_word_of := f_word_of,
    d_word_of := PySem.W.fnOf "word_of" "word_of" (defArgs s_word_of) (defBody s_word_of) (defScope s_word_of) .none kV_word_of dc_word_of pm_word_of an_word_of cd_word_of ct_word_of,
    F_word_of := F_word_of,
    g_word_of := PySem.W.mg_of X G a_word_of,
    b_word_of := b_word_of,
    a_text_of := f_text_of,
    d_text_of := PySem.W.fnOf "text_of" "text_of" (defArgs s_text_of) (defBody s_text_of) (defScope s_text_of) .none kV_text_of dc_text_of pm_text_of an_text_of cd_text_of ct_text_of,
    F_text_of := F_text_of,
    g_text_of := PySem.W.mg_of X G a_text_of,
    b_text_of := b_text_of,
    a_text_word := f_text_word,
    d_text_word := PySem.W.fnOf "text_word" "text_word" (defArgs s_text_word) (defBody s_text_word) (defScope s_text_word) .none kV_text_word dc_text_word pm_text_word an_text_word cd_text_word ct_text_word,
    F_text_word := F_text_word,
    g_text_word := PySem.W.mg_of X G a_text_word,
    b_text_word := b_text_word,
    a_word_text := f_word_text,
    d_word_text := PySem.W.fnOf "word_text" "word_text" (defArgs s_word_text) (defBody s_word_text) (defScope s_word_text) .none kV_word_text dc_word_text pm_word_text an_word_text cd_word_text ct_word_text,
    F_word_text := F_word_text,
    g_word_text := PySem.W.mg_of X G a_word_text,
    b_word_text := b_word_text,
    a_law_box := f_law_box,
    d_law_box := PySem.W.fnOf "_law_box" "_law_box" (defArgs s_law_box) (defBody s_law_box) (defScope s_law_box) .none kV_law_box dc_law_box pm_law_box an_law_box cd_law_box ct_law_box,
    F_law_box := F_law_box,
    g_law_box := PySem.W.mg_of X G a_law_box,
    b_law_box := b_law_box,
    a_law_take := f_law_take,
    d_law_take := PySem.W.fnOf "_law_take" "_law_take" (defArgs s_law_take) (defBody s_law_take) (defScope s_law_take) .none kV_law_take dc_law_take pm_law_take an_law_take cd_law_take ct_law_take,
    F_law_take := F_law_take,
    g_law_take := PySem.W.mg_of X G a_law_take,
    b_law_take := b_law_take,
    a_law_pick := f_law_pick,
    d_law_pick := PySem.W.fnOf "_law_pick" "_law_pick" (defArgs s_law_pick) (defBody s_law_pick) (defScope s_law_pick) .none kV_law_pick dc_law_pick pm_law_pick an_law_pick cd_law_pick ct_law_pick,
    F_law_pick := F_law_pick,
    g_law_pick := PySem.W.mg_of X G a_law_pick,
    b_law_pick := b_law_pick,
    a_law_word := f_law_word,
    d_law_word := PySem.W.fnOf "_law_word" "_law_word" (defArgs s_law_word) (defBody s_law_word) (defScope s_law_word) .none kV_law_word dc_law_word pm_law_word an_law_word cd_law_word ct_law_word,
    F_law_word := F_law_word,
    g_law_word := PySem.W.mg_of X G a_law_word,
    b_law_word := b_law_word,
    a_law_struck := f_law_struck,
    d_law_struck := PySem.W.fnOf "_law_struck" "_law_struck" (defArgs s_law_struck) (defBody s_law_struck) (defScope s_law_struck) .none kV_law_struck dc_law_struck pm_law_struck an_law_struck cd_law_struck ct_law_struck,
    F_law_struck := F_law_struck,
    g_law_struck := PySem.W.mg_of X G a_law_struck,
    b_law_struck := b_law_struck,
    a_law_pairs_right := f_law_pairs_right,
    d_law_pairs_right := PySem.W.fnOf "_law_pairs_right" "_law_pairs_right" (defArgs s_law_pairs_right) (defBody s_law_pairs_right) (defScope s_law_pairs_right) .none kV_law_pairs_right dc_law_pairs_right pm_law_pairs_right an_law_pairs_right cd_law_pairs_right ct_law_pairs_right,
    F_law_pairs_right := F_law_pairs_right,
    g_law_pairs_right := PySem.W.mg_of X G a_law_pairs_right,
    b_law_pairs_right := b_law_pairs_right,
    a_law_spoilt := f_law_spoilt,
    d_law_spoilt := PySem.W.fnOf "_law_spoilt" "_law_spoilt" (defArgs s_law_spoilt) (defBody s_law_spoilt) (defScope s_law_spoilt) .none kV_law_spoilt dc_law_spoilt pm_law_spoilt an_law_spoilt cd_law_spoilt ct_law_spoilt,
    F_law_spoilt := F_law_spoilt,
    g_law_spoilt := PySem.W.mg_of X G a_law_spoilt,
    b_law_spoilt := b_law_spoilt,
    a_law_refused := f_law_refused,
    d_law_refused := PySem.W.fnOf "_law_refused" "_law_refused" (defArgs s_law_refused) (defBody s_law_refused) (defScope s_law_refused) .none kV_law_refused dc_law_refused pm_law_refused an_law_refused cd_law_refused ct_law_refused,
    F_law_refused := F_law_refused,
    g_law_refused := PySem.W.mg_of X G a_law_refused,
    b_law_refused := b_law_refused,
    a_law_refusals_right := f_law_refusals_right,
    d_law_refusals_right := PySem.W.fnOf "_law_refusals_right" "_law_refusals_right" (defArgs s_law_refusals_right) (defBody s_law_refusals_right) (defScope s_law_refusals_right) .none kV_law_refusals_right dc_law_refusals_right pm_law_refusals_right an_law_refusals_right cd_law_refusals_right ct_law_refusals_right,
    F_law_refusals_right := F_law_refusals_right,
    g_law_refusals_right := PySem.W.mg_of X G a_law_refusals_right,
    b_law_refusals_right := b_law_refusals_right,
    a_law_word_right := f_law_word_right,
    d_law_word_right := PySem.W.fnOf "_law_word_right" "_law_word_right" (defArgs s_law_word_right) (defBody s_law_word_right) (defScope s_law_word_right) .none kV_law_word_right dc_law_word_right pm_law_word_right an_law_word_right cd_law_word_right ct_law_word_right,
    F_law_word_right := F_law_word_right,
    g_law_word_right := PySem.W.mg_of X G a_law_word_right,
    b_law_word_right := b_law_word_right,
    a_law := f_law,
    d_law := PySem.W.fnOf "law" "law" (defArgs s_law) (defBody s_law) (defScope s_law) .none kV_law dc_law pm_law an_law cd_law ct_law,
    F_law := F_law,
    g_law := PySem.W.mg_of X G a_law,
    b_law := b_law,
    kb_strike_out_0_word := x_kb_strike_out_0_word,
    kb_undo_word_0_word := x_kb_undo_word_0_word,
    kb_join_words_0_one_other := x_kb_join_words_0_one_other,
    kb_strike_pairs_0_word := x_kb_strike_pairs_0_word,
    kb_strikes_hold_0_word_value := x_kb_strikes_hold_0_word_value,
    kb_word_text_0_word := x_kb_word_text_0_word,
    kb_text_word_0_text := x_kb_text_word_0_text }
  refine ⟨_, fun s v => .of_eq rfl, spF 1 K T.xc m_law, fun H a ns _ hS => ?_, fun base _ _ => ok_law T⟩
  obtain ⟨as, e⟩ := law_true ns
  exact law_sp e hS
end K01
end VL

open PySem PySem.W PyProof.Rows
set_option maxRecDepth 100000 in
set_option maxHeartbeats 0 in
theorem PySem.Challenge.cw_cancelsback_k01_whole_words_struck_in_an_holds : PySem.Challenge.rw_cancelsback_k01_whole_words_struck_in_an.Holds := by
  w_on; o_law; k_head; (case hw => w_witness2)
  k_fill
  refine VL.walk_g (l := PySem.Challenge.rw_cancelsback_k01_whole_words_struck_in_an) (n := 63) (k := 10) (x := "script") rfl (by decide) rfl ⟨rfl, by decide, by decide⟩ (fun w h Y => PySem.W.kIn_of Y) ?F
  case F =>
    intro w mg fa h KX G hmg
    refine' VL.K01.all_mk KX G hmg ?z_abs ?z_any ?z_bool ?z_enumerate ?z_int ?z_isinstance ?z_len ?z_list ?z_max ?z_min ?z_range ?z_repr ?z_set ?z_sorted ?z_tuple ?hB_MergeError ?e0_g ?e0_l ?e0_sa ?e0_ga ?e0_gg ?e0_no ?e0_i ?e0_t ?e0_lf ?e0_cf ?e0_k ?e0_ex ?e0_ty ?e0_hd ?e0_ic ?e0_ss ?e0_ca ?e0_cn ?e0_ct ?e0_cm ?e0_iMergeError ?e0_tMergeError ?e0_sMergeError ?e1_g ?e1_l ?e1_sa ?e1_ga ?e1_gg ?e1_no ?e1_i ?e1_t ?e1_lf ?e1_cf ?e1_k ?e1_ex ?e1_ty ?e1_hd ?e1_ic ?e1_ss ?e1_ca ?e1_cn ?e1_ct ?e1_cm ?e1_iMergeError ?e1_tMergeError ?e1_sMergeError ?ns0_1 ?a_is_integer ?l_is_integer_ ?c_is_integer_ ?k_is_integer_ ?a_is_number ?l_is_number_ ?c_is_number_ ?k_is_number_ ?a_is_number_below ?l_is_number_below_ ?c_is_number_below_ ?k_is_number_below_ ?a_is_sequence ?l_is_sequence_ ?c_is_sequence_ ?k_is_sequence_ ?a_is_row_of ?l_is_row_of_ ?c_is_row_of_ ?k_is_row_of_ ?a_is_tuple_of ?l_is_tuple_of_ ?c_is_tuple_of_ ?k_is_tuple_of_ ?a_is_letter ?l_is_letter_ ?c_is_letter_ ?k_is_letter_ ?a_text_or_none ?l_text_or_none_ ?c_text_or_none_ ?k_text_or_none_ ?a_need_text ?l_need_text_ ?c_need_text_ ?k_need_text_ ?a_is_signed_letter ?l_is_signed_letter_ ?c_is_signed_letter_ ?k_is_signed_letter_ ?a_need_word ?l_need_word_ ?c_need_word_ ?k_need_word_ ?a_undo_each_other ?l_undo_each_other_ ?c_undo_each_other_ ?k_undo_each_other_ ?a_struck ?l_struck_ ?c_struck_ ?k_struck_ ?a_undone ?l_undone_ ?c_undone_ ?k_undone_ ?a_strike_out ?l_strike_out_ ?c_strike_out_ ?k_strike_out_ ?a_undo_word ?l_undo_word_ ?c_undo_word_ ?k_undo_word_ ?a_join_words ?l_join_words_ ?c_join_words_ ?k_join_words_ ?a_strike_pairs ?l_strike_pairs_ ?c_strike_pairs_ ?k_strike_pairs_ ?a_partners_or_none ?l_partners_or_none_ ?c_partners_or_none_ ?k_partners_or_none_ ?a_strikes_hold ?l_strikes_hold_ ?c_strikes_hold_ ?k_strikes_hold_ ?a_word_of ?l_word_of_ ?c_word_of_ ?k_word_of_ ?a_text_of ?l_text_of_ ?c_text_of_ ?k_text_of_ ?a_text_word ?l_text_word_ ?c_text_word_ ?k_text_word_ ?a_word_text ?l_word_text_ ?c_word_text_ ?k_word_text_ ?a_law_box ?l_law_box_ ?c_law_box_ ?k_law_box_ ?a_law_take ?l_law_take_ ?c_law_take_ ?k_law_take_ ?a_law_pick ?l_law_pick_ ?c_law_pick_ ?k_law_pick_ ?a_law_word ?l_law_word_ ?c_law_word_ ?k_law_word_ ?a_law_struck ?l_law_struck_ ?c_law_struck_ ?k_law_struck_ ?a_law_pairs_right ?l_law_pairs_right_ ?c_law_pairs_right_ ?k_law_pairs_right_ ?a_law_spoilt ?l_law_spoilt_ ?c_law_spoilt_ ?k_law_spoilt_ ?a_law_refused ?l_law_refused_ ?c_law_refused_ ?k_law_refused_ ?a_law_refusals_right ?l_law_refusals_right_ ?c_law_refusals_right_ ?k_law_refusals_right_ ?a_law_word_right ?l_law_word_right_ ?c_law_word_right_ ?k_law_word_right_ ?a_law ?l_law_ ?c_law_ ?k_law_
    (case z_abs => k_is)
    (case z_any => k_is)
    (case z_bool => k_is)
    (case z_enumerate => k_is)
    (case z_int => k_is)
    (case z_isinstance => k_is)
    (case z_len => k_is)
    (case z_list => k_is)
    (case z_max => k_is)
    (case z_min => k_is)
    (case z_range => k_is)
    (case z_repr => k_is)
    (case z_set => k_is)
    (case z_sorted => k_is)
    (case z_tuple => k_is)
    (case hB_MergeError => k_is)
    (case e0_g => k_is)
    (case e0_l => k_is)
    (case e0_sa => k_is)
    (case e0_ga => k_is)
    (case e0_gg => k_is)
    (case e0_no => k_is)
    (case e0_i => k_is)
    (case e0_t => k_is)
    (case e0_lf => k_is)
    (case e0_cf => k_is)
    (case e0_k => k_is)
    (case e0_ex => k_is)
    (case e0_ty => k_is)
    (case e0_hd => k_is)
    (case e0_ic => k_is)
    (case e0_ss => first | rfl | k_is)
    (case e0_ca => k_is)
    (case e0_cn => k_is)
    (case e0_ct => k_is)
    (case e0_cm => k_is)
    (case e0_iMergeError => k_is)
    (case e0_tMergeError => k_is)
    (case e0_sMergeError => k_is)
    (case e1_g => k_is)
    (case e1_l => k_is)
    (case e1_sa => k_is)
    (case e1_ga => k_is)
    (case e1_gg => k_is)
    (case e1_no => k_is)
    (case e1_i => k_is)
    (case e1_t => k_is)
    (case e1_lf => k_is)
    (case e1_cf => k_is)
    (case e1_k => k_is)
    (case e1_ex => k_is)
    (case e1_ty => k_is)
    (case e1_hd => k_is)
    (case e1_ic => k_is)
    (case e1_ss => first | rfl | k_is)
    (case e1_ca => k_is)
    (case e1_cn => k_is)
    (case e1_ct => k_is)
    (case e1_cm => k_is)
    (case e1_iMergeError => k_is)
    (case e1_tMergeError => k_is)
    (case e1_sMergeError => k_is)
    (case ns0_1 => k_is)
    (case a_is_integer => k_is)
    (case l_is_integer_ => k_is)
    (case c_is_integer_ => k_is)
    (case k_is_integer_ => k_is)
    (case a_is_number => k_is)
    (case l_is_number_ => k_is)
    (case c_is_number_ => k_is)
    (case k_is_number_ => k_is)
    (case a_is_number_below => k_is)
    (case l_is_number_below_ => k_is)
    (case c_is_number_below_ => k_is)
    (case k_is_number_below_ => k_is)
    (case a_is_sequence => k_is)
    (case l_is_sequence_ => k_is)
    (case c_is_sequence_ => k_is)
    (case k_is_sequence_ => k_is)
    (case a_is_row_of => k_is)
    (case l_is_row_of_ => k_is)
    (case c_is_row_of_ => k_is)
    (case k_is_row_of_ => k_is)
    (case a_is_tuple_of => k_is)
    (case l_is_tuple_of_ => k_is)
    (case c_is_tuple_of_ => k_is)
    (case k_is_tuple_of_ => k_is)
    (case a_is_letter => k_is)
    (case l_is_letter_ => k_is)
    (case c_is_letter_ => k_is)
    (case k_is_letter_ => k_is)
    (case a_text_or_none => k_is)
    (case l_text_or_none_ => k_is)
    (case c_text_or_none_ => k_is)
    (case k_text_or_none_ => k_is)
    (case a_need_text => k_is)
    (case l_need_text_ => k_is)
    (case c_need_text_ => k_is)
    (case k_need_text_ => k_is)
    (case a_is_signed_letter => k_is)
    (case l_is_signed_letter_ => k_is)
    (case c_is_signed_letter_ => k_is)
    (case k_is_signed_letter_ => k_is)
    (case a_need_word => k_is)
    (case l_need_word_ => k_is)
    (case c_need_word_ => k_is)
    (case k_need_word_ => k_is)
    (case a_undo_each_other => k_is)
    (case l_undo_each_other_ => k_is)
    (case c_undo_each_other_ => k_is)
    (case k_undo_each_other_ => k_is)
    (case a_struck => k_is)
    (case l_struck_ => k_is)
    (case c_struck_ => k_is)
    (case k_struck_ => k_is)
    (case a_undone => k_is)
    (case l_undone_ => k_is)
    (case c_undone_ => k_is)
    (case k_undone_ => k_is)
    (case a_strike_out => k_is)
    (case l_strike_out_ => k_is)
    (case c_strike_out_ => k_is)
    (case k_strike_out_ => k_is)
    (case a_undo_word => k_is)
    (case l_undo_word_ => k_is)
    (case c_undo_word_ => k_is)
    (case k_undo_word_ => k_is)
    (case a_join_words => k_is)
    (case l_join_words_ => k_is)
    (case c_join_words_ => k_is)
    (case k_join_words_ => k_is)
    (case a_strike_pairs => k_is)
    (case l_strike_pairs_ => k_is)
    (case c_strike_pairs_ => k_is)
    (case k_strike_pairs_ => k_is)
    (case a_partners_or_none => k_is)
    (case l_partners_or_none_ => k_is)
    (case c_partners_or_none_ => k_is)
    (case k_partners_or_none_ => k_is)
    (case a_strikes_hold => k_is)
    (case l_strikes_hold_ => k_is)
    (case c_strikes_hold_ => k_is)
    (case k_strikes_hold_ => k_is)
    (case a_word_of => k_is)
    (case l_word_of_ => k_is)
    (case c_word_of_ => k_is)
    (case k_word_of_ => k_is)
    (case a_text_of => k_is)
    (case l_text_of_ => k_is)
    (case c_text_of_ => k_is)
    (case k_text_of_ => k_is)
    (case a_text_word => k_is)
    (case l_text_word_ => k_is)
    (case c_text_word_ => k_is)
    (case k_text_word_ => k_is)
    (case a_word_text => k_is)
    (case l_word_text_ => k_is)
    (case c_word_text_ => k_is)
    (case k_word_text_ => k_is)
    (case a_law_box => k_is)
    (case l_law_box_ => k_is)
    (case c_law_box_ => k_is)
    (case k_law_box_ => k_is)
    (case a_law_take => k_is)
    (case l_law_take_ => k_is)
    (case c_law_take_ => k_is)
    (case k_law_take_ => k_is)
    (case a_law_pick => k_is)
    (case l_law_pick_ => k_is)
    (case c_law_pick_ => k_is)
    (case k_law_pick_ => k_is)
    (case a_law_word => k_is)
    (case l_law_word_ => k_is)
    (case c_law_word_ => k_is)
    (case k_law_word_ => k_is)
    (case a_law_struck => k_is)
    (case l_law_struck_ => k_is)
    (case c_law_struck_ => k_is)
    (case k_law_struck_ => k_is)
    (case a_law_pairs_right => k_is)
    (case l_law_pairs_right_ => k_is)
    (case c_law_pairs_right_ => k_is)
    (case k_law_pairs_right_ => k_is)
    (case a_law_spoilt => k_is)
    (case l_law_spoilt_ => k_is)
    (case c_law_spoilt_ => k_is)
    (case k_law_spoilt_ => k_is)
    (case a_law_refused => k_is)
    (case l_law_refused_ => k_is)
    (case c_law_refused_ => k_is)
    (case k_law_refused_ => k_is)
    (case a_law_refusals_right => k_is)
    (case l_law_refusals_right_ => k_is)
    (case c_law_refusals_right_ => k_is)
    (case k_law_refusals_right_ => k_is)
    (case a_law_word_right => k_is)
    (case l_law_word_right_ => k_is)
    (case c_law_word_right_ => k_is)
    (case k_law_word_right_ => k_is)
    (case a_law => k_is)
    (case l_law_ => k_is)
    (case c_law_ => k_is)
    (case k_law_ => k_is)

