import PyProof.Rows.All
import Wide.All
import OpenK.AllK
import Wide.FinOn
import PyProof.ReprReads
import PyProof.ReprRoads
import HandS.ForMost
import HandS.ForExc
import HandS.Wide
import HandS.NoneIn
import HandS.ExcInit
import HandS.ExcValue
import HandS.ExcIs
import HandS.IsInst
import HandS.Flow
import KE.KExcIs
import PySem.Challenge.RW_answercut_k14_whole_line_or_triad
import HandS.Set
import HandS.SetKeys
import HandS.SetBool
import HandS.SetFor
import HandS.Strs
import KE.SortData
import HandS.Conv
import HandS.More
import PyProof.ListStr
import HandS.Small
import HandS.SortInts
import HandS.Deep
import HandS.DictComp
import KE.GoesZip
import KE.GoesMore
import HandS.TupAny
import PyProof.ZipIter
import PyProof.CallType
import PyProof.Walk
import PyProof.WalkLemmas
import PyProof.RulesTry
import PyProof.TupleOfSeq
import HandS.RepeatKit
import HandS.Base
import HandS.Iter
import HandS.Style
import KE.GoesEnum
import PyProof.EnumMake
import HandS.Zip
import PyProof.WalksMore
import HandS.TupLe
set_option Elab.async false
set_option linter.all false
set_option maxRecDepth 100000
set_option maxHeartbeats 4000000
namespace Cut
open PySem PySem.Spec PyProof.Rows L2
/-! ### defs that are called where no object's text is being made: for repr -/
abbrev Gd (A : Around) : Prop := A.guards = some []
theorem Gd.deeper {A : Around} (h : Gd A) (env : Env) : Gd (A.deeper env) := h
/-- as FnOk, but for calls where no text is being made -/
structure FnG (P : Program) (w : World) (K : PySem.W.Frag) (mg : Str → Option Value) (base : Heap) (CX : CXT) (k : Nat) (f : Addr) (fd : FuncData) (ps : List Str) (sp : Sp) : Prop where
  len : ∀ vs H Q E, sp vs H Q E → vs.length = ps.length
  go : ∀ (A : Around) (outer : List Env) (s : Shared) (H : Hp) (args : Args) (us : List Value) (vs : List V) (Q : VK) (E : XK), Gd A → Room k A → Env0 P w K mg base A outer s H → BindsTo s fd args (ps.zip us) → Vals vs us → sp vs H Q E →
    codeAny (model P w) A (.call (.ref f) args) (CR CX outer P w H s Q E) s
section
variable {P : Program} {w : World} {K : PySem.W.Frag} {mg : Str → Option Value} {base : Heap} {CX : CXT}
theorem FnG.of {k : Nat} {f : Addr} {fd : FuncData} {ps : List Str} {sp : Sp} (F : FnOk P w K mg base CX k f fd ps sp) : FnG P w K mg base CX k f fd ps sp :=
  ⟨F.len, fun A outer s H args us vs Q E _ => F.run A outer s H args us vs Q E⟩
theorem FnG.mono {j k : Nat} {f : Addr} {fd : FuncData} {ps : List Str} {sp : Sp} (F : FnG P w K mg base CX j f fd ps sp) (h : j ≤ k) : FnG P w K mg base CX k f fd ps sp :=
  ⟨F.len, fun A outer s H args us vs Q E hg hr => F.go A outer s H args us vs Q E hg (hr.mono h)⟩
theorem okG {x qual : Str} {st : Stmt} {f : Addr} {fd : FuncData} {N ps : List Str} {k : Nat} {sp : Sp} (F : Fun K x qual st f fd) (S : FnScope N ps (defScope st)) (len : ∀ vs H Q E, sp vs H Q E → vs.length = ps.length)
    (body : ∀ (cdv : Value) (A : Around) (outer : List Env) (s : Shared) (H : Hp) (vs : List V) (Q : VK) (E : XK), Gd (A.deeper (envOfC qual (defScope st) s.heap.objs.size f cdv)) → Room k (A.deeper (envOfC qual (defScope st) s.heap.objs.size f cdv)) → sp vs H Q E →
      ∃ t, PSs (cxOf CX P w K mg base N qual (defScope st) f cdv A outer s H E) (defBody st) t ∧ t { nx := fun _ H' => Q .non H', rt := Q } (start N vs) H) : FnG P w K mg base CX (k + 1) f fd ps sp := by
  obtain ⟨oc, od, kV, doc, pm, an, cdv, ct, osl, rfl, lk, hcd⟩ := F.ex
  refine ⟨len, fun A outer s H args us vs Q E hg hr env0 bound rel due => ?_⟩
  have many := len _ _ _ _ due
  have kept : ∀ b o, base.get? b = some o → s.heap.get? b = some o := fun b o e => (env0.bs b o e).1
  have KX : K.In s.heap := env0.mod.kin.keeps kept
  have vis : ∀ y ∈ ps.zip us, (defScope st).names.lookup y.1 = some .local ∨ ((defScope st).names.lookup y.1 = some .cell ∧ ((cellsFrom (s.heap.objs.size + 1) (defScope st).names []).lookup y.1).isSome = true) := by
    intro y hy
    rcases S.par y.1 (List.of_mem_zip hy).1 with z | z
    · exact .inl z
    · exact .inr ⟨z, PySem.W.cellsFrom_some _ _ _ (.inl z)⟩
  refine codeAny_call_function hr.depth (KX _ _ lk) rfl S.co S.gen rfl (PySem.W.codeRec_of KX hcd) (bound _ _ _ _ ?_)
  refine wpAny_newFunctionEnv_cells S.kind vis fun env made s1 entered => ?_
  subst made
  refine ⟨(env0.mod.nolimit.keeps kept).keeps entered.toInCall.keep, codeAny_func ?_⟩
  obtain ⟨t, runs, ask⟩ := body cdv A outer s H vs Q E (hg.deeper _) (hr.deeper _) due
  have I0 : Inv (cxOf CX P w K mg base N qual (defScope st) f cdv A outer s H E) [] (start N vs) H s1 := inv_start S hr.hd env0 many rel entered
  have ends : ∀ {σ' : L2.St} {H' : Hp} {v : V} {u : Value} {s' : Shared}, Inv (cxOf CX P w K mg base N qual (defScope st) f cdv A outer s H E) [] σ' H' s' → RelV v u → Q v H' → CE outer P w H s Q u s' :=
    fun J rv z => ⟨_, _, J.os, J.bare, J.base, J.hok, rv, z⟩
  refine wpAny_mono (runs.run [] s1 _ H _ I0 ask) (fun fl s' out => ?_) fun _ _ z => z
  match fl, out with
  | .ret u, ⟨v, _, _, J, rv, z⟩ => exact ends J rv z
  | .next, ⟨_, _, J, z⟩ => exact ends (v := .non) (u := .none) J rfl z
  | .brk, ⟨_, _, _, z⟩ => exact z.elim
  | .cont, ⟨_, _, _, z⟩ => exact z.elim
end
/-! ### calls of such defs -/
section
variable {X : Cx} {CX : CXT} {k : Nat} {f : Addr} {fd : FuncData} {ps : List Str} {sp : Sp} {E : XK} {x : Str} {p pos : Pos} {e : Expr} {es : List Expr} {t : TA}
theorem pe_callG (F : FnG X.prog X.w X.K X.mg X.base CX k f fd ps sp) (hgd : Gd X.A) (hr : Room k X.A) (hg : Gl X x) (hm : X.mg x = some (.ref f)) (hk : PySem.W.keepIn X.K (.ref f) = true) (hb : Binds X.K fd ps []) (hx : Passes CX X E)
    (ha : PA X (e :: es) t) (hdb : (x == ("__debug__" : Str)) = false := by decide) (he : starEach (e :: es) X.env = (false, eval e X.env) :: starEach es X.env := by rfl) (hpl : (backTo pos (starEach es X.env)).any (·.1) = false := by rfl) :
    PE X (.Call (.Name x p) (e :: es) [] pos) (tCall sp [] E t) := by
  refine ⟨fun pins s σ H Q I h => ?_⟩
  refine wpAny_Call_Name_kw (ld_glob I hg hm ?_ hdb)
  refine PySem.W.callWith_K (h₀ := X.base) I.ok.mod.kin hk (thn (ha.run pos pins s σ H _ I h) fun us sA got => ?_) he hpl
  obtain ⟨vs, HA, IA, rel, due⟩ := got
  rw [List.append_nil] at due
  refine ⟨IA.kIn, ?_⟩
  have many : us.length = ps.length := rel.length.symm.trans (F.len _ _ _ _ due)
  have bound := hb sA us IA.kIn (by rw [List.append_nil]; exact many)
  rw [List.append_nil] at bound
  refine wpAny_call (codeAny_mono (F.go X.A X.stack sA HA ⟨us, []⟩ us vs Q E hgd hr IA.env0 bound rel due) fun res sB left => ?_)
  match res, left with
  | .error er, left => exact hx pins σ HA sA er sB IA left
  | .ok (.ret u), left => exact IA.after left
end
/-! ### repr of data -/
end Cut
set_option Elab.async false
set_option linter.all false
set_option maxRecDepth 100000
set_option maxHeartbeats 4000000
namespace Cut
open PySem PySem.Spec PyProof.Rows L2
mutual
theorem flat_noDict : ∀ d : PyData, d.canLay0 = true → d.hasDict = false
  | .none, _ => by simp only [PyData.hasDict]
  | .bool _, _ => by simp only [PyData.hasDict]
  | .int _, _ => by simp only [PyData.hasDict]
  | .str _, _ => by simp only [PyData.hasDict]
  | .list xs, h => by
    simp only [PyData.hasDict]
    exact flat_noDicts xs (by simpa only [PyData.canLay0] using h)
  | .tuple xs, h => by
    simp only [PyData.hasDict]
    exact flat_noDicts xs (by simpa only [PyData.canLay0] using h)
  | .dict _, h => by simp [PyData.canLay0] at h
theorem flat_noDicts : ∀ xs : List PyData, PyData.canLayAll0 xs = true → PyData.hasDictAll xs = false
  | [], _ => by simp only [PyData.hasDictAll]
  | x :: xs, h => by
    simp only [PyData.canLayAll0, Bool.and_eq_true] at h
    simp only [PyData.hasDictAll, flat_noDict x h.1, flat_noDicts xs h.2, Bool.or_self]
end
/-- the text of data that a value holds -/
theorem repr_data {P : Program} {w : World} {A : Around} {E : Value → Shared → Prop} {s : Shared} {u : Value} {d : PyData} {as : List Addr} {Q : Value → Shared → Prop} (r : Reads s.heap u d as) (hs : d.showable = true) (hsm : d.hasDict = true → sysModules ∉ as) (hg : Gd A)
    (hu : A.units + (d.depth + 1) < cLine) (hz : d.shown.length ≤ sizeLine) (k : ∀ h' t tk, (∀ b o, s.heap.get? b = some o → h'.get? b = some o) → Q (.str d.shown t) { s with heap := h', toks := tk }) : wpAny (model P w) A (call (.builtin "repr") [u]) Q E s := by
  cases u with
  | ref a => exact repr_of_reads' r hs hsm hg hu (fun _ _ e => e) k hz
  | none =>
    cases r
    exact PySem.P.repr_of_none (k _ _ _ fun _ _ e => e)
  | bool b =>
    cases r
    refine PySem.P.repr_of_bool ?_
    have z := k s.heap s.toks (s.toks + 1) fun _ _ e => e
    cases b <;> exact z
  | int i t =>
    cases r
    exact PySem.P.repr_of_int (of_decide_eq_true (by simpa only [PyData.showable] using hs)) (k _ _ _ fun _ _ e => e)
  | str x t =>
    cases r
    exact PySem.P.repr_of_str (k _ _ _ fun _ _ e => e) hz
  | _ => cases r
/-- repr(v), v data of None, bools, ints, texts, lists, tuples -/
def rRepr (K : PySem.W.Frag) : List V → Hp → VK → Prop := fun xs H Q => ∃ (v : V) (d : PyData), xs = [v] ∧ Dp K H v d ∧ SeqAt.shaped d = true ∧ d.showable = true ∧ d.shown.length ≤ sizeLine ∧ Q (.str d.shown) H
theorem call_repr {X : Cx} {k : Nat} (hg : Gd X.A) (hr : Room k X.A) : CallR X (.builtin "repr") (rRepr X.K) := by
  intro pins s σ H xs us Q I r h
  obtain ⟨v, d, rfl, dv, sh, hs, hz, q⟩ := h
  obtain ⟨u, rfl, ru⟩ := vals1 r
  obtain ⟨as, rd⟩ := Dp.reads I d v u dv ru
  have h1 := Bool.and_eq_true_iff.mp sh
  have hd := of_decide_eq_true h1.2
  refine repr_data rd hs (fun z => ?_) hg ?_ hz fun h' t tk kp => ⟨.str d.shown, H, I.kept kp, ⟨t, rfl⟩, q⟩
  · rw [flat_noDict d h1.1] at z
    cases z
  · have := hr.un
    omega
end Cut
set_option Elab.async false
set_option linter.all false
set_option maxRecDepth 100000
set_option maxHeartbeats 4000000
namespace Cut
open PySem PySem.Spec PyProof.Rows L2
/-! ### sets of ints and texts whose members may be listed -/
/-- the key that an entry of a set's table bears -/
def kOf (e : Int × Value) : Key := match e.2 with
  | .int i _ => .inl i
  | .str x _ => .inr x
  | _ => .inl 0
def GoodK (w : World) (e : Int × Value) : Prop := ∃ k : Key, keyIs k e.2 = true ∧ e.1 = keyH w k
theorem kOf_of {k : Key} {e : Int × Value} (h : keyIs k e.2 = true) : kOf e = k := by
  obtain ⟨n, v⟩ := e
  rcases keyIs_shape h with ⟨i, t, rfl, e2⟩ | ⟨x, t, rfl, e2⟩ <;> (dsimp only at e2; subst e2; rfl)
theorem good_iff {w : World} {e : Int × Value} (g : GoodK w e) (k : Key) : keyIs k e.2 = true ↔ kOf e = k := by
  obtain ⟨j, hj, _⟩ := g
  have ej := kOf_of hj
  constructor
  · exact fun h => kOf_of h
  · intro h
    rw [← h, ej]
    exact hj
theorem scan_of {k : Key} {v : Value} (h : keyIs k v = true) : v.scannable = true := by
  rcases keyIs_shape h with ⟨i, t, rfl, rfl⟩ | ⟨x, t, rfl, rfl⟩ <;> rfl
/-- at a a set of the keys ks (in no order), whose table can be walked -/
def SetM (P : Program) (w : World) (h : Heap) (a : Addr) (ks : List Key) : Prop :=
  ∃ (o : Obj) (es : Array (Int × Value)) (ep : Nat) (t : SetTable), h.get? a = some o ∧ o.ExactSet ∧ o.data = .set es ep t ∧ (∀ e ∈ es.toList, GoodK w e) ∧ (es.toList.map kOf).Perm ks ∧ ks.Nodup ∧
    es.size < scanBound ∧ t.fits es.size = true ∧ Ris t.place.toList ∧ (w.params.followText "set-order" = true ∨ t.led = true)
open Classical in
noncomputable def addK (ks : List Key) (k : Key) : List Key := if k ∈ ks then ks else k :: ks
theorem SetM.at_ {P : Program} {w : World} {h h' : Heap} {a : Addr} {ks : List Key} (R : SetM P w h a ks) (k : ∀ o, h.get? a = some o → h'.get? a = some o) : SetM P w h' a ks := by
  obtain ⟨o, es, ep, t, ho, r⟩ := R
  exact ⟨o, es, ep, t, k o ho, r⟩
section
variable {P : Program} {w : World} {A : Around} {E : Value → Shared → Prop} {s : Shared} {a : Addr} {ks : List Key} {k : Key} {u : Value}
theorem elems_of {l : List (Int × Value)} (g : ∀ e ∈ l, GoodK w e) : ElemsOf (mixKind P w) l := fun e he => by
  obtain ⟨j, h1, h2⟩ := g e he
  exact ⟨⟨j, h1, h2⟩, scan_of h1⟩
/-- a new table is stored, perhaps laid out anew -/
theorem set_stored {give : Bool → Sem Unit} (free : ∀ (b : Bool) (s₁ : Shared) (Q' : Unit → Shared → Prop), Q' () s₁ → wpAny (model P w) A (give b) Q' E s₁)
    {o : Obj} {es fs : Array (Int × Value)} {ep : Nat} {t t2 : SetTable} (ho : s.heap.get? a = some o) (hex : o.ExactSet) (hd : o.data = .set es ep t) (good : ∀ e ∈ fs.toList, GoodK w e) {ls : List Key} (perm : (fs.toList.map kOf).Perm ls) (nd : ls.Nodup)
    (small : fs.size < scanBound) (fit : t2.fits fs.size = true) (ris : Ris t2.place.toList) (led : w.params.followText "set-order" = true ∨ t2.led = true) {full : Bool} {R : Option Bool → Shared → Prop}
    (done : ∀ h', Heap.SameBut a s.heap h' → SetM P w h' a ls → R (some true) { s with heap := h' }) :
    wpAny (model P w) A (do
        storeSet a fs t2
        if (!full && t2.tooFull) = true then do
            give (relayAll t2 fs (SetTable.grown fs.size)).2.2
            storeSet a (relayAll t2 fs (SetTable.grown fs.size)).1 (relayAll t2 fs (SetTable.grown fs.size)).2.1
            pure (some true)
          else pure (some true)) R E s := by
  refine wpAny_bind (wpAny_storeSet_of ho hd ?_ (fits_of_scanBound small))
  have at1 := PpSet.storeB_at (es' := fs) (t' := t2) ho hd
  have but1 := Heap.SameBut.update s.heap a (Obj.putSet fs t2)
  split
  · have p2 := relayAll_perm t2 fs (SetTable.grown fs.size)
    have f2 := relayAll_fits t2 fs (SetTable.grown fs.size)
    have r2 := relayAll_ris t2 fs (SetTable.grown fs.size)
    have l2 := relayAll_led t2 fs (SetTable.grown fs.size)
    generalize relayAll t2 fs (SetTable.grown fs.size) = Z at p2 f2 r2 l2 ⊢
    obtain ⟨gs, t3, gave⟩ := Z
    dsimp only at p2 f2 r2 l2 ⊢
    have same : gs.size = fs.size := by
      rw [← Array.length_toList, p2.length_eq, Array.length_toList]
    refine wpAny_bind (free _ _ _ (wpAny_bind (wpAny_storeSet_of at1 rfl ?_ (fits_of_scanBound (by omega)))))
    have at2 := PpSet.storeB_at (es' := gs) (t' := t3) at1 rfl
    exact wpAny_pure (done _ (but1.trans (Heap.SameBut.update _ a _)) ⟨_, gs, _, t3, at2, hex, rfl, fun e he => good e (p2.mem_iff.mp he), (p2.map kOf).trans perm, nd, by omega, f2, r2, led.imp id fun z => by rw [l2]; exact z⟩)
  · exact wpAny_pure (done _ but1 ⟨_, fs, _, t2, at1, hex, rfl, good, perm, nd, small, fit, ris, led⟩)
theorem set_adds {Q : Bool → Shared → Prop} (R : SetM P w s.heap a ks) (hk : keyIs k u = true) (room : ks.length + 1 < scanBound)
    (done : ∀ h' b, Heap.SameBut a s.heap h' → SetM P w h' a (addK ks k) → Q b { s with heap := h' }) : wpAny (model P w) A (setAddHashed a u (keyH w k)) Q E s := by
  obtain ⟨o, es, ep, t, ho, hex, hd, good, perm, nd, small, fit, ris, led⟩ := R
  have scan := scan_of hk
  have els : ElemsOf (mixKind P w) es.toList := elems_of good
  have size : es.size = ks.length := by
    rw [← perm.length_eq, List.length_map, Array.length_toList]
  unfold setAddHashed setAddHashedIn
  refine wpAny_holding (wpAny_bind (wpAny_setState_of ho hd fit ?_))
  dsimp only
  rw [byScan_of scan small els]
  simp only [↓reduceIte]
  unfold setAddByScan
  refine wpAny_bind (wpAny_bind (wpAny_rule (wpAny_bind (wpAny_setScan_of (knd := mixKind P w) hk ho hd fit els ?_))))
  cases found : List.findIdx? (fun e => (mixKind P w).is k e.2) es.toList with
  | some j =>
    dsimp only
    obtain ⟨hj, pj, _⟩ := List.findIdx?_eq_some_iff_getElem.mp found
    have isIn : k ∈ ks := perm.mem_iff.mp (List.mem_map.mpr ⟨es.toList[j], List.getElem_mem hj, kOf_of pj⟩)
    refine wpAny_pure (wpAny_pure (done s.heap _ (Heap.SameBut.refl a s.heap) ?_))
    unfold addK
    rw [if_pos isIn]
    exact ⟨o, es, ep, t, ho, hex, hd, good, perm, nd, small, fit, ris, led⟩
  | none =>
    dsimp only
    have notIn : k ∉ ks := fun z => by
      obtain ⟨e, he, ek⟩ := List.mem_map.mp (perm.mem_iff.mpr z)
      have c := List.findIdx?_eq_none_iff.mp found e he
      have c2 := (good_iff (good e he) k).mpr ek
      rw [show (mixKind P w).is k e.2 = true from c2] at c
      cases c
    have gives : ∀ (b : Bool) {s₁ : Shared} {Q' : Unit → Shared → Prop}, Q' () s₁ → wpAny (model P w) A (match b with | true => rule "set.scan.the-table-gave-way" | false => pure ()) Q' E s₁ :=
      fun b s₁ Q' z => by cases b <;> first | exact wpAny_pure z | exact wpAny_rule z
    have p1 := layNew_perm t es (keyH w k) u
    have f1 := layNew_fits t es (keyH w k) u
    have r1 := layNew_ris t es (keyH w k) u ris
    have l1 := layNew_led t es (keyH w k) u
    generalize layNew t es (keyH w k) u = Z at p1 f1 r1 l1 ⊢
    obtain ⟨fs, t1, full, gave⟩ := Z
    dsimp only at p1 f1 r1 l1 ⊢
    rw [Array.toList_push] at p1
    have p2 : fs.toList.Perm ((keyH w k, u) :: es.toList) := p1.trans (List.perm_append_singleton _ _)
    have good1 : ∀ e ∈ fs.toList, GoodK w e := fun e he => by
      rcases List.mem_cons.mp (p2.mem_iff.mp he) with z | z
      · rw [z]
        exact ⟨k, hk, rfl⟩
      · exact good e z
    have p3 : (fs.toList.map kOf).Perm (k :: ks) := by
      have z := p2.map kOf
      rw [List.map_cons, kOf_of (e := (keyH w k, u)) hk] at z
      exact z.trans (perm.cons k)
    have nd1 : (k :: ks).Nodup := List.nodup_cons.mpr ⟨notIn, nd⟩
    have small1 : fs.size < scanBound := by
      have z := p3.length_eq
      rw [List.length_map, Array.length_toList, List.length_cons] at z
      omega
    have led1 : w.params.followText "set-order" = true ∨ t1.led = true := led.imp id fun z => by rw [l1]; exact z
    have fin : ∀ h' b, Heap.SameBut a s.heap h' → SetM P w h' a (k :: ks) → Q b { s with heap := h' } := fun h' b sb r => by
      refine done h' b sb ?_
      unfold addK
      rw [if_neg notIn]
      exact r
    have free : ∀ (b : Bool) (s₁ : Shared) (Q' : Unit → Shared → Prop), Q' () s₁ → wpAny (model P w) A (match b with | true => rule "set.scan.the-table-gave-way" | false => pure ()) Q' E s₁ := fun b s₁ Q' z => gives b z
    refine wpAny_bind (gives _ ?_)
    split
    · refine wpAny_bind ?_
      rw [hashByValue_scannable 8 scan]
      refine wpAny_pure ?_
      refine set_stored ?_ ho hex hd good1 p3 nd1 small1 ?_ ?_ ?_ ?_
      · intro b s₁ Q' z; cases b <;> first | exact wpAny_pure z | exact wpAny_rule z
      · first | (split <;> first | exact f1 | exact SetTable.fits_plain_off f1) | exact f1
      · first | (split <;> exact r1) | exact r1
      · first | (split <;> exact led1) | exact led1
      · intro h' sb r; dsimp only; exact wpAny_pure (fin h' _ sb r)
    · refine wpAny_bind (wpAny_pure ?_)
      simp only [↓reduceIte]
      refine set_stored ?_ ho hex hd good1 p3 nd1 small1 f1 r1 led1 ?_
      · intro b s₁ Q' z; cases b <;> first | exact wpAny_pure z | exact wpAny_rule z
      · intro h' sb r; dsimp only; exact wpAny_pure (fin h' _ sb r)
end
end Cut
set_option Elab.async false
set_option linter.all false
set_option maxRecDepth 100000
set_option maxHeartbeats 4000000
namespace Cut
open PySem PySem.Spec PyProof.Rows L2
/-! ### set comprehensions with any kind of members -/
/-- what a comprehension's set at D takes: the member y, and where that leads -/
abbrev Ad := Addr → V → Hp → (Hp → Prop) → Prop
/-- set.add does what ad says -/
def AddsBy (P : Program) (w : World) (A : Around) (ad : Ad) : Prop :=
  ∀ (X : Cx), X.prog = P → X.w = w → X.A = A → X.calm = true → ∀ (pins : List (Addr × Obj)) (σ : L2.St) (H : Hp) (s : Shared) (E : Value → Shared → Prop) (D : Addr) (y : V) (v : Value) (N : Hp → Prop) (Q : Value → Shared → Prop),
    L2.Inv X pins σ H s → RelV y v → ad D y H N → (∀ s' H', L2.Inv X pins σ H' s' → N H' → Q .none s') → wpAny (model X.prog X.w) X.A (call (.builtin "set.add") [.ref D, v]) Q E s
/-- the object of a set that was just made -/
def bareSet (w : World) : Obj := { cls := .type "set", dict := none, data := .set #[] 0 (.fresh 0 0 (!w.params.followText "set-order")) }
/-- an empty set may be taken for z -/
def EmptyBy (P : Program) (w : World) (z : Addr → HO) : Prop := ∀ (H : Hp) (h : Heap) (a : Addr), h.get? a = some (bareSet w) → ObjOk P w H h a (z a)
abbrev bl1 (e t i : Expr) (cs : List Expr) (sc : Scope) (p : Pos) : Expr := .SetComp e [⟨t, i, cs, 0⟩] sc p
abbrev bl2 (e t i : Expr) (cs : List Expr) (t1 i1 : Expr) (cs1 : List Expr) (sc : Scope) (p : Pos) : Expr := .SetComp e [⟨t, i, cs, 0⟩, ⟨t1, i1, cs1, 0⟩] sc p
section
variable {prog : Program} {w : World} {A : Around} {R : Result → Shared → Prop} {s : Shared} {e t i t1 i1 : Expr} {cs cs1 : List Expr} {sc : Scope} {p : Pos} {it acc : Value} {env : Env}
theorem turn_outer (e t i t1 i1 : Expr) (cs cs1 : List Expr) (sc : Scope) (p : Pos) (it acc : Value) (env : Env) :
    compTurn (bl2 e t i cs t1 i1 cs1 sc p) 0 it acc env = (do
      standAt i.pos
      match ← pyNext it with
      | none => pure (.done .next)
      | some v =>
        letOwnedTupleGo t it v
        assign t env v
        let mut fine := true
        for c in cs do
          if fine then fine ← isTrue c env (eval c env)
        if fine then
          let x ← eval i1 env
          standAt i1.pos
          let x ← foldedSetIterable i1 env x
          let _ ← runOwn (.compStart (bl2 e t i cs t1 i1 cs1 sc p) 1 (← holding [x] (pyIter x)) acc env) env
        again (.compLoop (bl2 e t i cs t1 i1 cs1 sc p) 0 it acc env)) := by rfl
theorem turn_inner (e t i t1 i1 : Expr) (cs cs1 : List Expr) (sc : Scope) (p : Pos) (it acc : Value) (env : Env) :
    compTurn (bl2 e t i cs t1 i1 cs1 sc p) 1 it acc env = (do
      standAt i1.pos
      match ← pyNext it with
      | none => pure (.done .next)
      | some v =>
        letOwnedTupleGo t1 it v
        assign t1 env v
        let mut fine := true
        for c in cs1 do
          if fine then fine ← isTrue c env (eval c env)
        if fine then
          (do let v ← eval e env; standAt e.pos; let _ ← call (.builtin "set.add") [acc, v])
        again (.compLoop (bl2 e t i cs t1 i1 cs1 sc p) 1 it acc env)) := by rfl
/-- the tests of one clause -/
abbrev tests (cs : List Expr) (env : Env) : Sem Bool := forIn cs true fun c r => if r = true then do let ok ← isTrue c env (eval c env); pure (ForInStep.yield ok) else pure (ForInStep.yield r)
/-- where what is raised goes -/
abbrev far (prog : Program) (w : World) (A : Around) (env : Env) (R : Result → Shared → Prop) : Value → Shared → Prop := notedBy (model prog w) A env fun x s' => R (.error x) s'
theorem loop_outer (plain : ∀ x, foldedSetIterable i1 env x = pure x) (I : Nat → Shared → Prop)
    (turn : ∀ n s, I n s → wpAny (model prog w) A (pyNext it) (fun r s₁ => match r with
      | none => R (.ok .next) s₁
      | some v => wpAny (model prog w) A (letOwnedTupleGo t it v) (fun _ s₂ => wpAny (model prog w) A (assign t env v) (fun _ s₃ => wpAny (model prog w) A (tests cs env) (fun fine s₄ =>
          if fine = true then wpAny (model prog w) A (eval i1 env) (fun x s₅ => wpAny (model prog w) A (pyIter x) (fun j s₆ =>
            codeAny (model prog w) A (.compStart (bl2 e t i cs t1 i1 cs1 sc p) 1 j acc env) (fun r s' => match r with
              | .ok _ => ∃ m, m < n ∧ I m s'
              | .error _ => False) s₆) (far prog w A env R) s₅) (far prog w A env R) s₄
          else ∃ m, m < n ∧ I m s₄) (far prog w A env R) s₃) (far prog w A env R) s₂) (far prog w A env R) s₁) (far prog w A env R) s)
    (n : Nat) (h : I n s) : codeAny (model prog w) A (.compLoop (bl2 e t i cs t1 i1 cs1 sc p) 0 it acc env) R s := by
  refine codeAny_loop rfl I (fun n s hI => ?_) n h
  show wpAny _ A ((compTurn (bl2 e t i cs t1 i1 cs1 sc p) 0 it acc env).onRaise (fun x => do noteFrame x env; theTreesLotGoes x)) _ _ s
  refine wpAny_noted ?_
  rw [turn_outer]
  refine wpAny_bind (wpAny_standAt (wpAny_bind (wpAny_mono (turn n s hI) (fun r s₁ q => ?_) fun _ _ z => z)))
  match r, q with
  | none, q => exact wpAny_pure q
  | some v, q =>
    refine wpAny_bind (wpAny_mono q (fun _ s₂ q => wpAny_bind (wpAny_mono q (fun _ s₃ q => wpAny_bind (wpAny_mono q (fun fine s₄ q => ?_) fun _ _ z => z)) fun _ _ z => z)) fun _ _ z => z)
    match fine, q with
    | false, q => exact wpAny_pure ⟨rfl, q⟩
    | true, q =>
      refine wpAny_bind (wpAny_mono q (fun x s₅ q => wpAny_bind (wpAny_standAt (wpAny_bind (wpAny_of_eq (plain x) (wpAny_bind (wpAny_holding (wpAny_mono q (fun j s₆ q => ?_) fun _ _ z => z))))))) fun _ _ z => z)
      refine wpAny_bind (wpAny_runOwn ?_)
      rw [Around.mark_none]
      refine codeAny_mono q fun r s' q => ?_
      match r, q with
      | .ok f, q => first | exact wpAny_pure ⟨rfl, q⟩ | exact wpAny_bind (wpAny_pure (wpAny_pure ⟨rfl, q⟩))
      | .error x, q => exact q.elim
theorem loop_inner (I : Nat → Shared → Prop)
    (turn : ∀ n s, I n s → wpAny (model prog w) A (pyNext it) (fun r s₁ => match r with
      | none => R (.ok .next) s₁
      | some v => wpAny (model prog w) A (letOwnedTupleGo t1 it v) (fun _ s₂ => wpAny (model prog w) A (assign t1 env v) (fun _ s₃ => wpAny (model prog w) A (tests cs1 env) (fun fine s₄ =>
          if fine = true then wpAny (model prog w) A (eval e env) (fun x s₅ => wpAny (model prog w) A (call (.builtin "set.add") [acc, x]) (fun _ s₆ => ∃ m, m < n ∧ I m s₆) (far prog w A env R) s₅) (far prog w A env R) s₄
          else ∃ m, m < n ∧ I m s₄) (far prog w A env R) s₃) (far prog w A env R) s₂) (far prog w A env R) s₁) (far prog w A env R) s)
    (n : Nat) (h : I n s) : codeAny (model prog w) A (.compLoop (bl2 e t i cs t1 i1 cs1 sc p) 1 it acc env) R s := by
  refine codeAny_loop rfl I (fun n s hI => ?_) n h
  show wpAny _ A ((compTurn (bl2 e t i cs t1 i1 cs1 sc p) 1 it acc env).onRaise (fun x => do noteFrame x env; theTreesLotGoes x)) _ _ s
  refine wpAny_noted ?_
  rw [turn_inner]
  refine wpAny_bind (wpAny_standAt (wpAny_bind (wpAny_mono (turn n s hI) (fun r s₁ q => ?_) fun _ _ z => z)))
  match r, q with
  | none, q => exact wpAny_pure q
  | some v, q =>
    refine wpAny_bind (wpAny_mono q (fun _ s₂ q => wpAny_bind (wpAny_mono q (fun _ s₃ q => wpAny_bind (wpAny_mono q (fun fine s₄ q => ?_) fun _ _ z => z)) fun _ _ z => z)) fun _ _ z => z)
    match fine, q with
    | false, q => exact wpAny_pure ⟨rfl, q⟩
    | true, q =>
      exact wpAny_bind (wpAny_bind (wpAny_mono q (fun x s₅ q => wpAny_bind (wpAny_standAt (wpAny_bind (wpAny_mono q (fun _ s₆ q => wpAny_pure (wpAny_pure ⟨rfl, q⟩)) fun _ _ z => z)))) fun _ _ z => z))
theorem start_inner (h0 : codeAny (model prog w) A (.compLoop (bl2 e t i cs t1 i1 cs1 sc p) 1 it acc env) R s)
    (h : wpAny (model prog w) A (pyIter it) (fun j s' => codeAny (model prog w) A (.compLoop (bl2 e t i cs t1 i1 cs1 sc p) 1 j acc env) R s') (far prog w A env R) s) :
    codeAny (model prog w) A (.compStart (bl2 e t i cs t1 i1 cs1 sc p) 1 it acc env) R s := by
  refine codeAny_of_tree ?_
  show wpAny _ _ ((compStart (bl2 e t i cs t1 i1 cs1 sc p) 1 it acc env).onRaise (fun x => do noteFrame x env; standAt theWindowsPlace)) _ _ s
  refine wpAny_notedAt ?_
  unfold compStart
  show wpAny _ _ (ask >>= _) _ _ s
  refine wpAny_bind (wpAny_askSetting (wpAny_ite ?_))
  split
  · first
      | exact wpAny_pure ⟨rfl, h0⟩
      | exact wpAny_bind (wpAny_pure (wpAny_pure ⟨rfl, h0⟩))
  · exact wpAny_bind (wpAny_rule (wpAny_bind (wpAny_standAt (wpAny_bind
      (wpAny_mono h (fun j s' q => wpAny_pure (And.intro rfl q)) fun _ _ z => z)))))
end
end Cut
set_option Elab.async false
set_option linter.all false
set_option maxRecDepth 100000
set_option maxHeartbeats 4000000
namespace Cut
open PySem PySem.Spec PyProof.Rows L2
section
variable {X : Cx} {z : Addr → HO} {ad : Ad}
/-- the new context of a comprehension's block -/
abbrev bCtx (X : Cx) (B : Shared) (HB : Hp) (sc : Scope) (fp : List Addr) : Cx :=
  X.blk B HB sc (compEnvC sc (cellsFrom (B.heap.objs.size + 1) sc.names (cloFrom X.env.cells sc.names [])) B.heap.objs.size X.env) fp
/-- the state of a comprehension whose next item is number n -/
def Mid (Y : Cx) (σ0 : L2.St) (fp : List Addr) (tn : Nat → Heap → Prop) (W : Nat → Nat → Hp → Prop) (m : Nat) (s : Shared) : Prop :=
  ∃ n H, L2.Inv Y [] σ0 H s ∧ tn n s.heap ∧ (∀ b ∈ fp, H b = none) ∧ W n m H
/-- entering: the set is made, the block's frame, the first walk begins -/
theorem set_begin {pins : List (Addr × Obj)} {s : Shared} {σ : L2.St} {H : Hp} {Q : VK} {e t i : Expr} {cs : List Expr} {rest : List Comprehension} {sc : Scope} {own : List (PySem.Str × Nat)} {p p' : Pos} {wi : TI} {use : Option (Value → Sem Unit)} {Qf : Value → Shared → Prop}
    (hN : X.N.Nodup) (I : L2.Inv X pins σ H s) (hi : PI X t i wi) (ok : BlkOk X.N X.env.scope sc own) (plain : ∀ x, foldedSetIterable i X.env x = pure x) (zk : EmptyBy X.prog X.w z)
    {Wk : It → Hp → Addr → Prop} (h : wi σ H fun J H1 => ∀ D, H1 D = none → Wk J H1 D)
    (back : ∀ D C s' m H', L2.Inv X pins σ H' s' → Q (.ref D) H' → s'.heap.Ns C m → FpOk X pins H' C → compPost (model X.prog X.w) X.A X.xe use Qf (.ref D) C (.ok .next) s')
    (main : ∀ (B : Shared) (HB H2 : Hp) (D it : Addr) (fp : List Addr) (tn : Nat → Heap → Prop) (J : It) (s4 : Shared), H2 D = none → Wk J H2 D → HB = upd H2 D (z D) → Turn X.prog X.w X.K t J fp it tn →
      L2.Inv (bCtx X B HB sc fp) [] (wipe σ (own.map (·.2))) HB s4 → tn 0 s4.heap → (∀ b ∈ fp, HB b = none) →
      (∀ (s' : Shared) (H' : Hp), L2.Inv (bCtx X B HB sc fp) [] (wipe σ (own.map (·.2))) H' s' → Q (.ref D) H' → compPost (model X.prog X.w) X.A X.xe use Qf (.ref D) B.heap.objs.size (.ok .next) s') →
      codeAny (model X.prog X.w) X.A (.compLoop (.SetComp e (⟨t, i, cs, 0⟩ :: rest) sc p) 0 (.ref it) (.ref D) (bCtx X B HB sc fp).env) (compPost (model X.prog X.w) X.A X.xe use Qf (.ref D) B.heap.objs.size) s4) :
    wpAny (model X.prog X.w) X.A (comprehension (.SetComp e (⟨t, i, cs, 0⟩ :: rest) sc p) sc X.env p' (newSet (.type "set")) false (eval i X.env) use) Qf X.xe s := by
  have has : ∀ y ∈ sc.names, y.2 = .free → ∃ c, X.env.cells.lookup y.1 = some c := fun y hy ey => (ok.free y hy ey).elim (fun k => I.ok.has _ (.inl k)) fun k => I.ok.has _ (.inr k)
  refine wpAny_comprehension_free (use := use) rfl plain (closure_ok has) ok.kind (fun y hy ey => (ok.uniq y hy).trans (congrArg some ey)) (thn (hi.run pins s σ H _ I h) fun xv s1 hx => thn hx fun iv s2 got => ?_)
  obtain ⟨it, fp, tn, J, H2, rfl, I2, T, st2, f2, q⟩ := got
  refine PpSet.newSet_ok (newEnv_comp ?_)
  obtain ⟨D, hD⟩ : ∃ D, s2.heap.objs.size = D := ⟨_, rfl⟩
  have free2 : H2 D = none := I2.hok.fresh (Nat.le_of_eq hD)
  have wk := q D free2
  obtain ⟨B, hB⟩ : ∃ B : Shared, B = { s2 with heap := s2.heap.push (bareSet X.w) } := ⟨_, rfl⟩
  obtain ⟨HB, eHB⟩ : ∃ HB : Hp, HB = upd H2 D (z D) := ⟨_, rfl⟩
  have heapB : B.heap = s2.heap.push (bareSet X.w) := by rw [hB]
  have IB : L2.Inv X pins σ HB B := by
    rw [hB, eHB]
    refine I2.laid (t' := s2.toks) (fun b o eo => Heap.get?_push_of_some _ eo) (Nat.le_of_eq hD) (zk _ _ _ ?_)
    rw [← hD]
    exact Heap.get?_push_size _ rfl
  have under : ∀ b ∈ fp, b < s2.heap.objs.size := fun b hb => let ⟨o, eo, _⟩ := T.obj _ _ st2 b hb; Heap.lt_size eo
  have fB : ∀ b ∈ fp, FpOk X pins HB b ∧ b < B.heap.objs.size := fun b hb => by
    have lt := under b hb
    have other : b ≠ D := by rw [← hD]; exact Nat.ne_of_lt lt
    refine ⟨⟨by rw [eHB, upd_ne other]; exact (f2 b hb).1, (f2 b hb).2⟩, ?_⟩
    rw [heapB, Heap.size_push]
    exact Nat.lt_succ_of_lt lt
  have stB : tn 0 B.heap := T.keep _ _ _ st2 fun b _ o eo => by rw [heapB]; exact Heap.get?_push_of_some _ eo
  have I4 := block_start IB ok hN fB
  have key := main B HB H2 D it fp tn J { B with heap := pushCells (B.heap.push { cls := .type "dict", data := .dict #[] }) sc.names } free2 wk eHB T I4
    (T.keep _ _ _ stB fun b _ o eo => pushCells_keeps _ _ _ _ (Heap.get?_push_of_some _ eo)) (fun b hb => (fB b hb).1.1) (fun s' H' I' q' => ?_)
  · have run := PpSet.codeAny_compStart_set key (T.self X.A 0 _ _ _ (T.keep _ _ _ stB fun b _ o eo => pushCells_keeps _ _ _ _ (Heap.get?_push_of_some _ eo)) key)
    rw [hD]
    rw [hB] at run
    exact run
  · have home : L2.Inv X pins σ H' s' := IB.call' (ch := fp) I'.os I'.base I'.hok I'.bare fun b hb =>
      let k := (fB b hb).1; ⟨k.2.2.2.1, k.2.1, k.2.2.2.2.1, k.2.2.2.2.2⟩
    have noC : H' B.heap.objs.size = none := I'.free
    obtain ⟨m, hn, _⟩ := I'.loc
    exact back D B.heap.objs.size s' m H' home q' hn (IB.fpOk (Nat.le_refl _) noC)
/-- an iterator's objects stand aside -/
theorem aside {Y : Cx} {σ' : L2.St} {H' : Hp} {s' : Shared} {fp : List Addr} (e : Y.ex = fp) (e2 : Y.pn = []) (I : L2.Inv Y [] σ' H' s') (hn : ∀ b ∈ fp, H' b = none) : ∀ b ∈ fp, FpOk Y [] H' b := fun b hb => by
  rw [← e] at hb
  refine ⟨hn b (e ▸ hb), (I.ok.exf b hb).1, I.ok.exfs b hb, .inl hb, fun x c k => (I.ok.exf b hb).2 x c k, fun q hq => ?_⟩
  rw [e2] at hq
  simp at hq
/-- what a turn of the first walk leaves -/
theorem turn_end {Y : Cx} {σ0 σ' : L2.St} {fp : List Addr} {tn : Nat → Heap → Prop} {W : Nat → Nat → Hp → Prop} {J : It} {it : Addr} {t : Expr} {n m : Nat} {Nx : Hp → Prop} {s7 s' : Shared} {H' : Hp} (T : Turn Y.prog Y.w Y.K t J fp it tn) (st7 : tn (n + 1) s7.heap)
    (hNx : ∀ H', Nx H' → ∃ m', m' < m ∧ W (n + 1) m' H') (I : L2.Inv Y ([] ++ pinsAt fp s7.heap) σ' H' s') (hl : σ0.length = σ'.length) (hk : ∀ (j : Nat) v, σ0[j]? = some (some v) → σ'[j]? = some (some v)) (nx : Nx H') :
    ∃ k, k < m ∧ Mid Y σ0 fp tn W k s' := by
  obtain ⟨m', lt, w⟩ := hNx H' nx
  have held : ∀ b ∈ fp, ∀ o, s7.heap.get? b = some o → s'.heap.get? b = some o ∧ H' b = none := fun b hb o eo =>
    have k := I.pin (b, o) (List.mem_append_right _ (List.mem_append_right _ (mem_pinsAt hb eo)))
    ⟨k.1, k.2.1⟩
  refine ⟨m', lt, n + 1, H', (I.unpinned (pins := [])).weak hl hk, T.keep _ _ _ st7 fun b hb o eo => (held b hb o eo).1, fun b hb => ?_, w⟩
  obtain ⟨o, eo, _⟩ := T.obj _ _ st7 b hb
  exact (held b hb o eo).2
/-- {e for t in i if cs} -/
def tSet1 (z : Addr → HO) (ad : Ad) (wi : TI) (g : TG) (tt : TT) (te : TE) (vs : List Nat) : TE := fun σ H Q => wi σ H fun J H1 => ∀ D, H1 D = none → ∃ W : Nat → Nat → Hp → Prop, (∃ m, W 0 m (upd H1 D (z D))) ∧ ∀ n m H, W n m H →
  (J.stop n H ∧ Q (.ref D) H) ∨ (J.go n H ∧ ∃ Nx : Hp → Prop, (∀ H', Nx H' → ∃ m', m' < m ∧ W (n + 1) m' H') ∧ ∀ x H', J.yld n H x H' →
    g x (wipe σ vs) H' fun σ2 H2 => wipe σ2 vs = wipe σ vs ∧ tt σ2 H2 fun b H3 => if b = true then te σ2 H3 fun y H4 => ad D y H4 Nx else Nx H3)
theorem pe_set1 {e t i : Expr} {cs : List Expr} {sc : Scope} {own : List (PySem.Str × Nat)} {p : Pos} {wi : TI} {g : TG} {tt : TT} {te : TE} (hc : X.calm = true) (hN : X.N.Nodup) (zk : EmptyBy X.prog X.w z) (adk : AddsBy X.prog X.w X.A ad) (hi : PI X t i wi) (ok : BlkOk X.N X.env.scope sc own)
    (hg : ∀ (s : Shared) (H : Hp) (C : Addr) (cl : List (PySem.Str × Addr)) (fp : List Addr), PG (X.blk s H sc (compEnvC sc cl C X.env) fp) t g)
    (ht : ∀ (s : Shared) (H : Hp) (C : Addr) (cl : List (PySem.Str × Addr)) (fp : List Addr), PTs (X.blk s H sc (compEnvC sc cl C X.env) fp) cs tt)
    (he : ∀ (s : Shared) (H : Hp) (C : Addr) (cl : List (PySem.Str × Addr)) (fp : List Addr), PE (X.blk s H sc (compEnvC sc cl C X.env) fp) e te)
    (plain : ∀ x, foldedSetIterable i X.env x = pure x := by intro _; rfl) : PE X (.SetComp e [⟨t, i, cs, 0⟩] sc p) (tSet1 z ad wi g tt te (own.map (·.2))) := by
  refine ⟨fun pins s σ H Q I h => ?_⟩
  rw [PpSet.eval_SetComp]
  refine set_begin (Q := Q) hN I hi ok plain zk h (fun D C s' m H' I' q hn f => ⟨m, hn, fun h'' sb => ?_⟩) ?_
  · obtain ⟨f0, f1, f2, f3, f4, f5⟩ := f
    exact ⟨.ref D, H', I'.turned (t' := s'.toks) (fun b o hb eo => (sb.2 b hb).trans eo) f0 f1 f3 f4 f5, rfl, q⟩
  intro B HB H2 D it fp tn J s4 free2 wk eHB T I4 st4 nfp out
  obtain ⟨W, ⟨m0, w0⟩, turn⟩ := wk
  rw [← eHB] at w0
  have pg := hg B HB B.heap.objs.size (cellsFrom (B.heap.objs.size + 1) sc.names (cloFrom X.env.cells sc.names [])) fp
  have pt := ht B HB B.heap.objs.size (cellsFrom (B.heap.objs.size + 1) sc.names (cloFrom X.env.cells sc.names [])) fp
  have pe := he B HB B.heap.objs.size (cellsFrom (B.heap.objs.size + 1) sc.names (cloFrom X.env.cells sc.names [])) fp
  refine PpSet.compLoopS_any (Mid (bCtx X B HB sc fp) (wipe σ (own.map (·.2))) fp tn W) ?_ m0 ⟨0, HB, I4, st4, nfp, w0⟩
  rintro m s5 ⟨n, H5, I5, st5, n5, w5⟩
  rcases turn n m H5 w5 with ⟨stop, qq⟩ | ⟨go, Nx, hNx, step⟩
  · refine thnF (T.done (bCtx X B HB sc fp) rfl rfl rfl hc n [] s5 _ H5 (fun _ _ => False) I5 (aside rfl rfl I5 n5) st5 stop) fun r s6 ⟨hr, I6⟩ => ?_
    subst hr
    exact out s6 H5 I6 qq
  · refine thnF (T.item (bCtx X B HB sc fp) rfl rfl rfl hc n [] s5 _ H5 (fun _ _ => False) I5 (aside rfl rfl I5 n5) st5 go) fun r s6 ⟨u, hr, h6⟩ => ?_
    subst hr
    refine thnF h6 fun _ s7 ⟨x, H7, I7, r7, y7, st7, n7⟩ => ?_
    refine thnF (pg.run _ s7 _ H7 x u _ (I7.pinned (aside rfl rfl I7 n7) (T.obj _ _ st7)) r7 (step x H7 y7)) fun _ s8 ⟨σ8, H8, I8, hw8, q8⟩ => ?_
    refine thnF (pt.run _ s8 σ8 H8 _ I8 q8) fun b s9 ⟨H9, I9, q9⟩ => ?_
    have hl : (wipe σ (own.map (·.2))).length = σ8.length := by rw [← hw8, wipe_length]
    have hk : ∀ (j : Nat) v, (wipe σ (own.map (·.2)))[j]? = some (some v) → σ8[j]? = some (some v) := fun j v ev => by
      rw [← hw8] at ev
      exact (wipe_some ev).1
    cases b with
    | false => exact turn_end T st7 hNx I9 hl hk (by simpa using q9)
    | true =>
      simp only [if_true] at q9 ⊢
      refine thnF (pe.run _ s9 σ8 H9 _ I9 q9) fun v s10 ⟨y, H10, I10, r10, q10⟩ => ?_
      exact adk (bCtx X B HB sc fp) rfl rfl rfl hc _ σ8 H10 s10 _ D y v Nx _ I10 r10 q10 fun s11 H11 I11 q11 => turn_end T st7 hNx I11 hl hk q11
end
end Cut
set_option Elab.async false
set_option linter.all false
set_option maxRecDepth 100000
set_option maxHeartbeats 4000000
namespace Cut
open PySem PySem.Spec PyProof.Rows L2
section
variable {X : Cx} {z : Addr → HO} {ad : Ad}
/-- {e for t in i if cs for t1 in i1 if cs1} -/
def tSet2 (z : Addr → HO) (ad : Ad) (wi : TI) (g : TG) (tt : TT) (wi1 : TI) (g1 : TG) (tt1 : TT) (te : TE) (vs vs1 : List Nat) : TE := fun σ H Q => wi σ H fun J H1 => ∀ D, H1 D = none → ∃ W : Nat → Nat → Hp → Prop, (∃ m, W 0 m (upd H1 D (z D))) ∧ ∀ n m H, W n m H →
  (J.stop n H ∧ Q (.ref D) H) ∨ (J.go n H ∧ ∃ Nx : Hp → Prop, (∀ H', Nx H' → ∃ m', m' < m ∧ W (n + 1) m' H') ∧ ∀ x H', J.yld n H x H' →
    g x (wipe σ vs) H' fun σ2 H2 => wipe σ2 vs = wipe σ vs ∧ tt σ2 H2 fun b H3 => if b = true then
      wi1 σ2 H3 fun J1 H4 => ∃ W1 : Nat → Nat → Hp → Prop, (∃ m, W1 0 m H4) ∧ ∀ j k H, W1 j k H →
        (J1.stop j H ∧ Nx H) ∨ (J1.go j H ∧ ∃ Ny : Hp → Prop, (∀ H', Ny H' → ∃ k', k' < k ∧ W1 (j + 1) k' H') ∧ ∀ x H', J1.yld j H x H' →
          g1 x (wipe σ2 vs1) H' fun σ3 H5 => wipe σ3 vs1 = wipe σ2 vs1 ∧ tt1 σ3 H5 fun b H6 => if b = true then te σ3 H6 fun y H7 => ad D y H7 Ny else Ny H6)
      else Nx H3)
/-- the state of the inner walk -/
def MidI (Y : Cx) (pins : List (Addr × Obj)) (σ0 : L2.St) (fp : List Addr) (tn : Nat → Heap → Prop) (W : Nat → Nat → Hp → Prop) (m : Nat) (s : Shared) : Prop :=
  ∃ n H, L2.Inv Y pins σ0 H s ∧ tn n s.heap ∧ (∀ b ∈ fp, H b = none) ∧ W n m H
/-- what a turn of the inner walk leaves -/
theorem turn_endI {Y : Cx} {pins : List (Addr × Obj)} {σ0 σ' : L2.St} {fp : List Addr} {tn : Nat → Heap → Prop} {W : Nat → Nat → Hp → Prop} {J : It} {it : Addr} {t : Expr} {n m : Nat} {Nx : Hp → Prop} {s7 s' : Shared} {H' : Hp} (T : Turn Y.prog Y.w Y.K t J fp it tn) (st7 : tn (n + 1) s7.heap)
    (hNx : ∀ H', Nx H' → ∃ m', m' < m ∧ W (n + 1) m' H') (I : L2.Inv Y (pins ++ pinsAt fp s7.heap) σ' H' s') (hl : σ0.length = σ'.length) (hk : ∀ (j : Nat) v, σ0[j]? = some (some v) → σ'[j]? = some (some v)) (nx : Nx H') :
    ∃ k, k < m ∧ MidI Y pins σ0 fp tn W k s' := by
  obtain ⟨m', lt, w⟩ := hNx H' nx
  have held : ∀ b ∈ fp, ∀ o, s7.heap.get? b = some o → s'.heap.get? b = some o ∧ H' b = none := fun b hb o eo =>
    have k := I.pin (b, o) (List.mem_append_right _ (List.mem_append_right _ (mem_pinsAt hb eo)))
    ⟨k.1, k.2.1⟩
  refine ⟨m', lt, n + 1, H', I.unpinned.weak hl hk, T.keep _ _ _ st7 fun b hb o eo => (held b hb o eo).1, fun b hb => ?_, w⟩
  obtain ⟨o, eo, _⟩ := T.obj _ _ st7 b hb
  exact (held b hb o eo).2
theorem pe_set2 {e t i t1 i1 : Expr} {cs cs1 : List Expr} {sc : Scope} {own : List (PySem.Str × Nat)} {vs1 : List Nat} {p : Pos} {wi wi1 : TI} {g g1 : TG} {tt tt1 : TT} {te : TE} (hc : X.calm = true) (hN : X.N.Nodup) (zk : EmptyBy X.prog X.w z) (adk : AddsBy X.prog X.w X.A ad) (hi : PI X t i wi) (ok : BlkOk X.N X.env.scope sc own)
    (hv : ∀ j ∈ vs1, j ∈ own.map (·.2))
    (hg : ∀ (s : Shared) (H : Hp) (C : Addr) (cl : List (PySem.Str × Addr)) (fp : List Addr), PG (X.blk s H sc (compEnvC sc cl C X.env) fp) t g)
    (ht : ∀ (s : Shared) (H : Hp) (C : Addr) (cl : List (PySem.Str × Addr)) (fp : List Addr), PTs (X.blk s H sc (compEnvC sc cl C X.env) fp) cs tt)
    (hi1 : ∀ (s : Shared) (H : Hp) (C : Addr) (cl : List (PySem.Str × Addr)) (fp : List Addr), PI (X.blk s H sc (compEnvC sc cl C X.env) fp) t1 i1 wi1)
    (hg1 : ∀ (s : Shared) (H : Hp) (C : Addr) (cl : List (PySem.Str × Addr)) (fp : List Addr), PG (X.blk s H sc (compEnvC sc cl C X.env) fp) t1 g1)
    (ht1 : ∀ (s : Shared) (H : Hp) (C : Addr) (cl : List (PySem.Str × Addr)) (fp : List Addr), PTs (X.blk s H sc (compEnvC sc cl C X.env) fp) cs1 tt1)
    (he : ∀ (s : Shared) (H : Hp) (C : Addr) (cl : List (PySem.Str × Addr)) (fp : List Addr), PE (X.blk s H sc (compEnvC sc cl C X.env) fp) e te)
    (plain : ∀ x, foldedSetIterable i X.env x = pure x := by intro _; rfl) (plain1 : ∀ env x, foldedSetIterable i1 env x = pure x := by intro _ _; rfl) :
    PE X (.SetComp e [⟨t, i, cs, 0⟩, ⟨t1, i1, cs1, 0⟩] sc p) (tSet2 z ad wi g tt wi1 g1 tt1 te (own.map (·.2)) vs1) := by
  refine ⟨fun pins s σ H Q I h => ?_⟩
  rw [PpSet.eval_SetComp]
  refine set_begin (Q := Q) hN I hi ok plain zk h (fun D C s' m H' I' q hn f => ⟨m, hn, fun h'' sb => ?_⟩) ?_
  · obtain ⟨f0, f1, f2, f3, f4, f5⟩ := f
    exact ⟨.ref D, H', I'.turned (t' := s'.toks) (fun b o hb eo => (sb.2 b hb).trans eo) f0 f1 f3 f4 f5, rfl, q⟩
  intro B HB H2 D it fp tn J s4 free2 wk eHB T I4 st4 nfp out
  obtain ⟨W, ⟨m0, w0⟩, turn⟩ := wk
  rw [← eHB] at w0
  have pg := hg B HB B.heap.objs.size (cellsFrom (B.heap.objs.size + 1) sc.names (cloFrom X.env.cells sc.names [])) fp
  have pt := ht B HB B.heap.objs.size (cellsFrom (B.heap.objs.size + 1) sc.names (cloFrom X.env.cells sc.names [])) fp
  have pe := he B HB B.heap.objs.size (cellsFrom (B.heap.objs.size + 1) sc.names (cloFrom X.env.cells sc.names [])) fp
  have pi1 := hi1 B HB B.heap.objs.size (cellsFrom (B.heap.objs.size + 1) sc.names (cloFrom X.env.cells sc.names [])) fp
  have pg1 := hg1 B HB B.heap.objs.size (cellsFrom (B.heap.objs.size + 1) sc.names (cloFrom X.env.cells sc.names [])) fp
  have pt1 := ht1 B HB B.heap.objs.size (cellsFrom (B.heap.objs.size + 1) sc.names (cloFrom X.env.cells sc.names [])) fp
  refine loop_outer (plain1 _) (Mid (bCtx X B HB sc fp) (wipe σ (own.map (·.2))) fp tn W) ?_ m0 ⟨0, HB, I4, st4, nfp, w0⟩
  rintro m s5 ⟨n, H5, I5, st5, n5, w5⟩
  rcases turn n m H5 w5 with ⟨stop, qq⟩ | ⟨go, Nx, hNx, step⟩
  · refine thnF (T.done (bCtx X B HB sc fp) rfl rfl rfl hc n [] s5 _ H5 (fun _ _ => False) I5 (aside rfl rfl I5 n5) st5 stop) fun r s6 ⟨hr, I6⟩ => ?_
    subst hr
    exact out s6 H5 I6 qq
  refine thnF (T.item (bCtx X B HB sc fp) rfl rfl rfl hc n [] s5 _ H5 (fun _ _ => False) I5 (aside rfl rfl I5 n5) st5 go) fun r s6 ⟨u, hr, h6⟩ => ?_
  subst hr
  refine thnF h6 fun _ s7 ⟨x, H7, I7, r7, y7, st7, n7⟩ => ?_
  refine thnF (pg.run _ s7 _ H7 x u _ (I7.pinned (aside rfl rfl I7 n7) (T.obj _ _ st7)) r7 (step x H7 y7)) fun _ s8 ⟨σ8, H8, I8, hw8, q8⟩ => ?_
  refine thnF (pt.run _ s8 σ8 H8 _ I8 q8) fun b s9 ⟨H9, I9, q9⟩ => ?_
  have hl : (wipe σ (own.map (·.2))).length = σ8.length := by rw [← hw8, wipe_length]
  have hk : ∀ (j : Nat) v, (wipe σ (own.map (·.2)))[j]? = some (some v) → σ8[j]? = some (some v) := fun j v ev => by
    rw [← hw8] at ev
    exact (wipe_some ev).1
  have hk1 : ∀ (j : Nat) v, (wipe σ (own.map (·.2)))[j]? = some (some v) → (wipe σ8 vs1)[j]? = some (some v) := fun j v ev => by
    rw [← hw8] at ev
    have two := wipe_some ev
    rw [wipe_out fun k => two.2 (hv j k)]
    exact two.1
  cases b with
  | false => exact turn_end T st7 hNx I9 hl hk (by simpa using q9)
  | true =>
    simp only [if_true] at q9 ⊢
    refine thnF (pi1.run _ s9 σ8 H9 _ I9 q9) fun xv s10 hx => thnF hx fun iv s11 got => ?_
    obtain ⟨it1, fp1, tn1, J1, H11, rfl, I11, T1, st11, f11, W1, ⟨m1, w1⟩, turn1⟩ := got
    have aside1 : ∀ {H' : Hp}, (∀ b ∈ fp1, H' b = none) → ∀ b ∈ fp1, FpOk (bCtx X B HB sc fp) ([] ++ pinsAt fp s7.heap) H' b := fun hn b hb => ⟨hn b hb, (f11 b hb).2⟩
    have inner : codeAny (model X.prog X.w) X.A (.compLoop (bl2 e t i cs t1 i1 cs1 sc p) 1 (.ref it1) (.ref D) (bCtx X B HB sc fp).env) (fun r s' => match r with
        | .ok _ => ∃ k, k < m ∧ Mid (bCtx X B HB sc fp) (wipe σ (own.map (·.2))) fp tn W k s'
        | .error _ => False) s11 := by
      refine loop_inner (MidI (bCtx X B HB sc fp) ([] ++ pinsAt fp s7.heap) (wipe σ8 vs1) fp1 tn1 W1) ?_ m1 ⟨0, H11, I11.weak (wipe_length _ _) (fun j v ev => (wipe_some ev).1), st11, fun b hb => (f11 b hb).1, w1⟩
      rintro k s12 ⟨j, H12, I12, st12, n12, w12⟩
      rcases turn1 j k H12 w12 with ⟨stop1, nx1⟩ | ⟨go1, Ny, hNy, step1⟩
      · refine thnF (T1.done (bCtx X B HB sc fp) rfl rfl rfl hc j _ s12 (wipe σ8 vs1) H12 (fun _ _ => False) I12 (aside1 n12) st12 stop1) fun r s13 ⟨hr, I13⟩ => ?_
        subst hr
        exact turn_end T st7 hNx I13 (hl.trans (wipe_length σ8 vs1).symm) hk1 nx1
      refine thnF (T1.item (bCtx X B HB sc fp) rfl rfl rfl hc j _ s12 (wipe σ8 vs1) H12 (fun _ _ => False) I12 (aside1 n12) st12 go1) fun r s13 ⟨u1, hr, h13⟩ => ?_
      subst hr
      refine thnF h13 fun _ s14 ⟨x1, H14, I14, r14, y14, st14, n14⟩ => ?_
      refine thnF (pg1.run _ s14 (wipe σ8 vs1) H14 x1 u1 _ (I14.pinned (aside1 n14) (T1.obj _ _ st14)) r14 (step1 x1 H14 y14)) fun _ s15 ⟨σ15, H15, I15, hw15, q15⟩ => ?_
      refine thnF (pt1.run _ s15 σ15 H15 _ I15 q15) fun b1 s16 ⟨H16, I16, q16⟩ => ?_
      have hl1 : (wipe σ8 vs1).length = σ15.length := by rw [← hw15, wipe_length]
      have hk2 : ∀ (j : Nat) v, (wipe σ8 vs1)[j]? = some (some v) → σ15[j]? = some (some v) := fun j v ev => by
        rw [← hw15] at ev
        exact (wipe_some ev).1
      cases b1 with
      | false => exact turn_endI T1 st14 hNy I16 hl1 hk2 (by simpa using q16)
      | true =>
        simp only [if_true] at q16 ⊢
        refine thnF (pe.run _ s16 σ15 H16 _ I16 q16) fun v s17 ⟨y, H17, I17, r17, q17⟩ => ?_
        exact adk (bCtx X B HB sc fp) rfl rfl rfl hc _ σ15 H17 s17 _ D y v Ny _ I17 r17 q17 fun s18 H18 I18 q18 => turn_endI T1 st14 hNy I18 hl1 hk2 q18
    exact start_inner inner (T1.self X.A 0 _ _ _ st11 inner)
end
end Cut
set_option Elab.async false
set_option linter.all false
set_option maxRecDepth 100000
set_option maxHeartbeats 8000000
namespace Cut
open PySem PySem.Spec PyProof.Rows L2
/-! ### sets of keys over the layer -/
theorem mem_addK {ks : List Key} {k j : Key} : j ∈ addK ks k ↔ j = k ∨ j ∈ ks := by
  unfold addK
  split
  · rename_i h
    exact ⟨.inr, fun z => z.elim (fun e => e ▸ h) id⟩
  · exact List.mem_cons
theorem len_addK (ks : List Key) (k : Key) : (addK ks k).length ≤ ks.length + 1 := by
  unfold addK
  split
  · omega
  · exact Nat.le_refl _
noncomputable def gathered (ks : List Key) : List Key := ks.foldl addK []
theorem mem_fold {j : Key} : ∀ (l acc : List Key), j ∈ l.foldl addK acc ↔ j ∈ acc ∨ j ∈ l
  | [], acc => by simp
  | k :: l, acc => by
    rw [List.foldl_cons, mem_fold l, mem_addK, List.mem_cons]
    constructor
    · rintro ((h | h) | h)
      · exact .inr (.inl h)
      · exact .inl h
      · exact .inr (.inr h)
    · rintro (h | h | h)
      · exact .inl (.inr h)
      · exact .inl (.inl h)
      · exact .inr h
theorem mem_gathered {ks : List Key} {j : Key} : j ∈ gathered ks ↔ j ∈ ks := by
  unfold gathered
  rw [mem_fold]
  simp
theorem gathered_snoc (ks : List Key) (k : Key) : gathered (ks ++ [k]) = addK (gathered ks) k := by
  unfold gathered
  rw [List.foldl_append, List.foldl_cons, List.foldl_nil]
theorem len_fold : ∀ (l acc : List Key), (l.foldl addK acc).length ≤ acc.length + l.length
  | [], acc => by simp
  | k :: l, acc => by
    have h := len_fold l (addK acc k)
    have h2 := len_addK acc k
    rw [List.foldl_cons, List.length_cons]
    omega
theorem len_gathered (ks : List Key) : (gathered ks).length ≤ ks.length := by
  have h := len_fold ks []
  unfold gathered
  simpa using h
theorem SetM.nodup {P : Program} {w : World} {h : Heap} {a : Addr} {ks : List Key} (R : SetM P w h a ks) : ks.Nodup := by
  obtain ⟨_, _, _, _, _, _, _, _, _, nd, _⟩ := R
  exact nd
/-- the set of the keys ks at a -/
def SetMO (P : Program) (w : World) (a : Addr) (ks : List Key) : HO := .ext fun h => SetM P w h a ks
theorem setM_new {w : World} {P : Program} {H : Hp} {h : Heap} {a : Addr} {ks : List Key} (R : SetM P w h a ks) : ObjOk P w H h a (SetMO P w a ks) := by
  have ⟨o, _, _, _, ho, _⟩ := R
  exact ⟨R, ⟨o, ho⟩, fun h1 h2 p k => SetM.at_ p k⟩
theorem setM_bare {P : Program} {w : World} {h : Heap} {a : Addr} (ho : h.get? a = some (bareSet w)) : SetM P w h a [] :=
  ⟨_, #[], 0, _, ho, ⟨rfl, rfl, rfl⟩, rfl, (fun e he => by simp at he), (by simp), (by simp), (by decide), (by rfl), List.Pairwise.nil, by
    show _ ∨ (!w.params.followText "set-order") = true
    cases w.params.followText "set-order"
    · exact .inr rfl
    · exact .inl rfl⟩
theorem emptyK (P : Program) (w : World) : EmptyBy P w (fun a => SetMO P w a []) := fun H h a ho => setM_new (setM_bare ho)
section
variable {X : Cx}
theorem setM_get {pins : List (Addr × Obj)} {σ : L2.St} {H : Hp} {s : Shared} {a : Addr} {ks : List Key} (I : L2.Inv X pins σ H s) (ha : H a = some (SetMO X.prog X.w a ks)) : SetM X.prog X.w s.heap a ks := (I.hok a _ ha).1
end
section
variable {P : Program} {w : World} {A : Around} {E : Value → Shared → Prop} {s : Shared} {a : Addr} {ks : List Key} {k : Key} {u : Value}
/-- set.add of a key -/
theorem call_setM_add {Q : Value → Shared → Prop} (R : SetM P w s.heap a ks) (hk : keyIs k u = true) (room : ks.length + 1 < scanBound)
    (done : ∀ h', Heap.SameBut a s.heap h' → SetM P w h' a (addK ks k) → Q .none { s with heap := h', toks := s.toks + 1 }) : wpAny (model P w) A (call (.builtin "set.add") [.ref a, u]) Q E s := by
  have ty : s.TypeIs (.ref a) "set" := by
    obtain ⟨o, _, _, _, ho, hex, _⟩ := R
    exact ⟨o, ho, hex.1⟩
  refine wpAny_call_entry F.slot_set_add ty F.entry_set_add ?_ (F.args_set_add_2 _ _)
  unfold Builtin.«set.add» Builtin.Frozenset.oneOther
  simp only [List.isEmpty_nil, bind_assoc]
  unfold Builtin.Frozenset.addrOf setAdd
  refine wpAny_bind (wpAny_pure ?_)
  try dsimp only
  refine wpAny_bind (wpAny_pure ?_)
  try dsimp only
  refine wpAny_bind (wpAny_holding (wpAny_bind ((mixKind P w).pyHash (k := k) hk ?_)))
  refine set_adds (s := { s with toks := s.toks + 1 }) R hk room fun h' b sb r => ?_
  show wpAny _ _ (ret Value.none) _ _ _
  exact wpAny_pure ⟨_, rfl, done h' sb r⟩
end
/-- what a comprehension's set of keys takes -/
def adK (P : Program) (w : World) : Ad := fun D y H N => ∃ (k : Key) (ks : List Key), y = kV k ∧ H D = some (SetMO P w D ks) ∧ ks.length + 1 < scanBound ∧ N (upd H D (SetMO P w D (addK ks k)))
theorem addsK (P : Program) (w : World) (A : Around) : AddsBy P w A (adK P w) := by
  intro X eP ew eA hc pins σ H s E D y v N Q I r h out
  subst eP ew eA
  obtain ⟨k, ks, rfl, hD, room, n⟩ := h
  refine call_setM_add (setM_get I hD) (kV_is (P := X.prog) (w := X.w) r) room fun h' sb new => ?_
  have he : ∃ u, h'.get? D = some u := by
    have ⟨o, _, _, _, ho, _⟩ := new
    exact ⟨o, ho⟩
  exact out _ _ (I.write (e := D) (t' := s.toks + 1) (by rw [hD]; trivial) (.inl rfl) (fun b u hb hu => (sb.2 b hb).trans hu) he (setM_new new)) n
/-! ### sorted -/
/-- texts in their order -/
def leT (x y : Str) : Bool := decide (x.cps.toList ≤ y.cps.toList)
def sortT (xs : List Str) : List Str := xs.mergeSort leT
theorem leT_trans (a b c : Str) (h1 : leT a b = true) (h2 : leT b c = true) : leT a c = true := decide_eq_true (List.le_trans (of_decide_eq_true h1) (of_decide_eq_true h2))
theorem leT_total (a b : Str) : (leT a b || leT b a) = true := by
  rcases List.le_total a.cps.toList b.cps.toList with h | h
  · rw [show leT a b = true from decide_eq_true h]; rfl
  · rw [show leT b a = true from decide_eq_true h, Bool.or_true]
theorem leT_anti {a b : Str} (h1 : leT a b = true) (h2 : leT b a = true) : a = b := by
  have e : a.cps.toList = b.cps.toList := List.le_antisymm (of_decide_eq_true h1) (of_decide_eq_true h2)
  cases a; cases b
  have := Array.toList_inj.mp e
  subst this
  rfl
theorem sortT_perm (xs : List Str) : (sortT xs).Perm xs := List.mergeSort_perm _ _
theorem sortT_sorted (xs : List Str) : (sortT xs).Pairwise (fun a b => leT a b = true) := List.pairwise_mergeSort leT_trans leT_total xs
theorem sortT_eq {xs ys : List Str} (h : xs.Perm ys) : sortT xs = sortT ys :=
  List.Perm.eq_of_pairwise (le := fun a b => leT a b = true) (fun a b _ _ h1 h2 => leT_anti h1 h2) (sortT_sorted xs) (sortT_sorted ys) (((sortT_perm xs).trans h).trans (sortT_perm ys).symm)
theorem mem_sortT {xs : List Str} {x : Str} : x ∈ sortT xs ↔ x ∈ xs := (sortT_perm xs).mem_iff
end Cut
set_option Elab.async false
set_option linter.all false
set_option maxRecDepth 100000
set_option maxHeartbeats 8000000
namespace Cut
open PySem PySem.Spec PyProof.Rows L2
/-! ### the texts of a set, ascending -/
def txt : Key → Option Str
  | .inl _ => none
  | .inr x => some x
noncomputable def ded (xs : List Str) : List Str := (gathered (xs.map .inr)).filterMap txt
noncomputable def namesT (xs : List Str) : List Str := sortT (ded xs)
theorem gathered_nodup : ∀ (l acc : List Key), acc.Nodup → (l.foldl addK acc).Nodup
  | [], _, h => h
  | k :: l, acc, h => by
    rw [List.foldl_cons]
    refine gathered_nodup l _ ?_
    unfold addK
    split
    · exact h
    · rename_i c
      exact List.nodup_cons.mpr ⟨c, h⟩
theorem mem_ded {xs : List Str} {x : Str} : x ∈ ded xs ↔ x ∈ xs := by
  unfold ded
  rw [List.mem_filterMap]
  constructor
  · rintro ⟨k, hk, e⟩
    obtain ⟨y, hy, rfl⟩ := List.mem_map.mp (mem_gathered.mp hk)
    cases e
    exact hy
  · intro h
    exact ⟨.inr x, mem_gathered.mpr (List.mem_map.mpr ⟨x, h, rfl⟩), rfl⟩
theorem nodup_txt : ∀ (l : List Key), l.Nodup → (l.filterMap txt).Nodup
  | [], _ => by simp
  | .inl i :: l, h => by
    rw [List.filterMap_cons_none rfl]
    exact nodup_txt l (List.nodup_cons.mp h).2
  | .inr x :: l, h => by
    rw [show (Sum.inr x :: l).filterMap txt = x :: l.filterMap txt from rfl]
    refine List.nodup_cons.mpr ⟨fun z => ?_, nodup_txt l (List.nodup_cons.mp h).2⟩
    obtain ⟨k, hk, e⟩ := List.mem_filterMap.mp z
    cases k with
    | inl i => cases e
    | inr y =>
      cases e
      exact (List.nodup_cons.mp h).1 hk
theorem ded_nodup (xs : List Str) : (ded xs).Nodup := nodup_txt _ (gathered_nodup _ _ (by simp))
theorem namesT_nodup (xs : List Str) : (namesT xs).Nodup := (sortT_perm _).nodup_iff.mpr (ded_nodup xs)
theorem mem_namesT {xs : List Str} {x : Str} : x ∈ namesT xs ↔ x ∈ xs := mem_sortT.trans mem_ded
theorem perm_of_mem {xs ys : List Str} (h1 : xs.Nodup) (h2 : ys.Nodup) (h : ∀ x, x ∈ xs ↔ x ∈ ys) : xs.Perm ys :=
  (List.perm_ext_iff_of_nodup h1 h2).mpr h
theorem namesT_ext {xs ys : List Str} (h : ∀ x, x ∈ xs ↔ x ∈ ys) : namesT xs = namesT ys :=
  sortT_eq (perm_of_mem (ded_nodup xs) (ded_nodup ys) fun x => mem_ded.trans ((h x).trans mem_ded.symm))
theorem len_namesT (xs : List Str) : (namesT xs).length ≤ xs.length := by
  unfold namesT
  rw [(sortT_perm _).length_eq]
  unfold ded
  refine Nat.le_trans (List.length_filterMap_le _ _) (Nat.le_trans (len_gathered _) ?_)
  rw [List.length_map]
  exact Nat.le_refl _
/-! ### sorted(a set of texts) -/
theorem keys_are {w : World} {es : List (Int × Value)} (good : ∀ e ∈ es, GoodK w e) (all : ∀ k ∈ es.map kOf, ∃ x, k = .inr x) : PySem.W.EachIs (fun v (x : Str) => ∃ t, v = Value.str x t) (es.map (·.2)) ((es.map kOf).filterMap txt) := by
  induction es with
  | nil => exact .nil
  | cons e r ih =>
    obtain ⟨k, hk, _⟩ := good e List.mem_cons_self
    have ek := kOf_of hk
    obtain ⟨x, ex⟩ := all (kOf e) (by rw [List.map_cons]; exact List.mem_cons_self)
    have ek2 : k = .inr x := ek.symm.trans ex
    subst ek2
    rw [List.map_cons, List.map_cons, ek]
    rw [show (Sum.inr x :: r.map kOf).filterMap txt = x :: (r.map kOf).filterMap txt from rfl]
    refine .cons ?_ (ih (fun e he => good e (List.mem_cons_of_mem _ he)) fun k hk => all k (by rw [List.map_cons]; exact List.mem_cons_of_mem _ hk))
    rcases keyIs_shape hk with ⟨i, t, h1, _⟩ | ⟨y, t, h1, h2⟩
    · cases h1
    · cases h1
      exact ⟨t, h2⟩
/-- values that are some texts in another order -/
theorem texts_perm {vs us : List Value} (p : vs.Perm us) {xs : List Str} (h : PySem.W.EachIs (fun v (x : Str) => ∃ t, v = Value.str x t) us xs) : ∃ ys : List Str, ys.Perm xs ∧ PySem.W.EachIs (fun v (x : Str) => ∃ t, v = Value.str x t) vs ys := by
  induction p generalizing xs with
  | nil => exact ⟨xs, List.Perm.refl _, h⟩
  | cons v _ ih =>
    cases h with
    | cons h1 h2 =>
      obtain ⟨ys, hp, hy⟩ := ih h2
      exact ⟨_ :: ys, hp.cons _, .cons h1 hy⟩
  | swap v u l =>
    cases h with
    | cons h1 h2 =>
      cases h2 with
      | cons h3 h4 => exact ⟨_ :: _ :: _, List.Perm.swap _ _ _, .cons h3 (.cons h1 h4)⟩
  | trans _ _ ih1 ih2 =>
    obtain ⟨ys, hp, hy⟩ := ih2 h
    obtain ⟨zs, hp2, hz⟩ := ih1 hy
    exact ⟨zs, hp2.trans hp, hz⟩
theorem vals_texts : ∀ {vs : List Value} {xs : List Str}, PySem.W.EachIs (fun v (x : Str) => ∃ t, v = Value.str x t) vs xs → Vals (xs.map V.str) vs
  | _, _, .nil => .nil
  | _, _, .cons ⟨t, e⟩ r => .cons ⟨t, e⟩ (vals_texts r)
theorem reads_texts {h : Heap} {a : Addr} : ∀ {vs : List Value} {xs : List Str}, PySem.W.EachIs (fun v (x : Str) => ∃ t, v = Value.str x t) vs xs → PySem.W.EachIs (fun v (x : Str) => ∃ as, Reads h v (.str x) as ∧ a ∉ as) vs xs
  | _, _, .nil => .nil
  | _, _, .cons ⟨t, e⟩ r => .cons ⟨[], by subst e; exact Reads.str _ _, by simp⟩ (reads_texts r)
section
variable {P : Program} {w : World} {A : Around} {E : Value → Shared → Prop} {s : Shared} {a : Addr} {ks : List Key}
theorem sorted_setM {Q : Value → Shared → Prop} (R : SetM P w s.heap a ks) (hh : A.handled = none) (texts : ∀ k ∈ ks, ∃ x, k = .inr x) (hu : A.units + 64 < cLine) (few : ks.length ≤ sizeLine)
    (done : ∀ s' p (out : List Value) (c : Nat), (∀ b o, s.heap.get? b = some o → s'.heap.get? b = some o) → s'.gens = s.gens → s'.os = s.os → s.heap.objs.size ≤ p →
      s'.heap.get? p = some (seqObj "list" out.toArray c) → Vals ((sortT (ks.filterMap txt)).map V.str) out → Q (.ref p) s') : wpAny (model P w) A (call (.builtin "sorted") [.ref a]) Q E s := by
  obtain ⟨o, es, ep, t, ho, hex, hd, good, perm, nd, small, fit, ris, led⟩ := R
  have many : es.toList.length = ks.length := by rw [← perm.length_eq, List.length_map]
  have E1 := keys_are good fun k hk => texts k (perm.mem_iff.mp hk)
  refine Calls.call_function_entry kind_sorted plain_sorted entry_sorted (args_sorted1 _) ?_
  unfold Builtin.«sorted»
  refine wpAny_bind (m := checkCount "sorted" 1 1 _) (wpAny_pure ?_)
  refine wpAny_bind (collect_set (A := A.in1) hh ⟨o, ho, hex.1, hd⟩ fit small ris led fun s1 vs k1 hz g1 o1 pm => ?_)
  obtain ⟨ys, py, E2⟩ := texts_perm pm E1
  have hvl : vs.length ≤ sizeLine := by
    rw [pm.length_eq, List.length_map, many]
    exact few
  have eys : ys.length = vs.length := E2.length.symm
  refine wpAny_bind (wpAny_newList ?_ hvl)
  have hoL : (s1.heap.push (seqObj "list" vs.toArray 0)).get? s1.heap.objs.size = some (seqObj "list" vs.toArray 0) := Heap.get?_push_size _ rfl
  refine wpAny_bind (wpAny_holding (PySem.W.list_sort_data (enc := fun x : Str => .str x) (s := { s1 with heap := s1.heap.push (seqObj "list" vs.toArray 0) }) hoL E2 (reads_texts E2) (PySem.W.AllAlike.of fun _ _ => by simp [PySem.W.alike]) (PySem.W.Sortable.others fun x => ⟨by simp, by simp⟩) (by rw [eys]; exact hvl) (fun b _ => ?_) fun out hl ho => ?_))
  · show A.in1.units + 1 + PyData.depth (.str b) < cLine
    simp only [PyData.depth]
    have : A.in1.units ≤ A.units + 1 := by first | exact Nat.le_refl _ | (show _ ≤ _; simp [Around.in1]) | omega
    omega
  · have fin : ys.mergeSort (PySem.W.dataLe false fun x : Str => PyData.str x) = sortT (ks.filterMap txt) := by
      rw [PySem.W.dataLe_str]
      exact sortT_eq (py.trans (perm.filterMap txt))
    rw [fin] at ho
    obtain ⟨c, hc⟩ := sortedHeap_at (vs := vs) (out := out.toArray) hoL
    refine wpAny_pure ⟨_, rfl, done _ s1.heap.objs.size out c (fun b u e => ?_) g1 o1 hz hc (vals_texts ho)⟩
    have q := k1 b u e
    have hlt := Heap.lt_size q
    show (sortedHeap (s1.heap.push (seqObj "list" vs.toArray 0)) s1.heap.objs.size vs out.toArray).get? b = some u
    rw [sortedHeap_old (Nat.ne_of_lt hlt) (by rw [Heap.size_push]; exact Nat.lt_succ_of_lt hlt)]
    exact Heap.get?_push_of_some _ q
end
end Cut
set_option Elab.async false
set_option linter.all false
set_option maxRecDepth 100000
set_option maxHeartbeats 8000000
namespace Cut
open PySem PySem.Spec PyProof.Rows L2
section
variable {P : Program} {w : World} {A : Around} {E : Value → Shared → Prop} {s : Shared}
/-! ### set(a list of keys) -/
theorem gathered_take {ks : List Key} {i : Nat} {k : Key} (h : ks[i]? = some k) : gathered (ks.take (i + 1)) = addK (gathered (ks.take i)) k := by
  rw [List.take_add_one, h]
  exact gathered_snoc _ _
theorem set_takes {I : Addr} {fp wr : List Addr} {G : Array GenState → Array GenState → Prop} {n : Nat} {Pv : Nat → Value → Prop} {St : Nat → Shared → Prop} {R : Result → Shared → Prop}
    (W : WalksS P w A.in1 I fp wr G n Pv St) (S : Addr) (out : S ∉ fp) (ks : List Key) (hn : n = ks.length) (few : ks.length + 1 < scanBound) (val : ∀ i v, Pv i v → ∃ k, ks[i]? = some k ∧ keyIs k v = true) :
    ∀ (d i : Nat) (s : Shared), n - i = d → i ≤ n → St i s → SetM P w s.heap S (gathered (ks.take i)) →
      (∀ s', Moved (S :: wr) G s s' → SetM P w s'.heap S (gathered ks) → R (.ok (.ret .none)) s') →
      codeAny (model P w) A (.builtin "set.update.loop" ⟨[.ref S, .ref I], []⟩) R s := by
  have outw : S ∉ wr := fun h => out (W.sub _ h)
  have sub : ∀ b ∈ wr, b ∈ S :: wr := fun b hb => List.mem_cons_of_mem _ hb
  intro d
  induction d with
  | zero =>
    intro i s hd hi st R0 fin
    have ei : i = n := by omega
    subst ei
    refine codeAny_builtin F.entry_set_update_loop ?_ ; rw [Around.under_plainId F.plain_set_update_loop _] ; show wpAny _ A.in1 (pyNext (.ref I) >>= _) _ _ s
    refine wpAny_bind (W.done s _ _ st fun s' mv => ?_)
    show wpAny _ A.in1 (ret Value.none) _ _ s'
    rw [show ks.take i = ks from List.take_of_length_le (by omega)] at R0
    exact wpAny_pure (fin s' (mv.mono sub) (R0.at_ fun o e => mv.heap S o outw e))
  | succ d ih =>
    intro i s hd hi st R0 fin
    have lt : i < n := by omega
    refine codeAny_builtin F.entry_set_update_loop ?_ ; rw [Around.under_plainId F.plain_set_update_loop _] ; show wpAny _ A.in1 (pyNext (.ref I) >>= _) _ _ s
    refine wpAny_bind (W.item i s _ _ lt st fun v s' hP st' mv => ?_)
    obtain ⟨k, hk, kv⟩ := val i v hP
    have R1 : SetM P w s'.heap S (gathered (ks.take i)) := R0.at_ fun o e => mv.heap S o outw e
    have room : (gathered (ks.take i)).length + 1 < scanBound := by
      have h := len_gathered (ks.take i)
      rw [List.length_take] at h
      omega
    show wpAny _ A.in1 (holding [v] (setAdd S v) >>= _) _ _ s'
    refine wpAny_bind (wpAny_holding ?_)
    unfold setAdd
    refine wpAny_holding (wpAny_bind ((mixKind P w).pyHash (k := k) kv ?_))
    refine set_adds (s := { s' with toks := s'.toks + 1 }) R1 kv room fun h' b sb R2 => ?_
    rw [← gathered_take hk] at R2
    refine wpAny_pure ⟨plainId_quiet F.plain_set_update_loop _, ih (i + 1) _ (by omega) lt (W.frame _ s' _ _ st' (Nat.le_succ _) fun b hb o e => ?_) R2 fun s'' mv' R3 => ?_⟩
    · rw [sb.2 b fun h : b = S => out (by rw [← h]; exact hb)]
      exact e
    · refine fin s'' (Moved.trans W.gtrans ((mv.mono sub).then_heap (Nat.le_succ _) fun b o hb e => ?_) mv') R3
      rw [sb.2 b fun h : b = S => hb (by rw [h]; exact List.mem_cons_self)]
      exact e
set_option maxHeartbeats 16000000 in
theorem call_set_keys {l : Addr} {items : Array Value} (ks : List Key) {Q : Value → Shared → Prop} (hh : A.handled = none) (hl : s.heap.IsList l items) (len : items.size = ks.length) (val : ∀ (i : Nat) v, items[i]? = some v → ∃ k, ks[i]? = some k ∧ keyIs k v = true)
    (few : ks.length + 1 < scanBound)
    (done : ∀ (h' : Heap) (tk : Nat), SetM P w h' s.heap.objs.size (gathered ks) → (∀ b o, s.heap.get? b = some o → h'.get? b = some o) → Q (.ref s.heap.objs.size) { s with heap := h', toks := tk }) :
    wpAny (model P w) A (call (.type "set") [.ref l]) Q E s := by
  obtain ⟨c0, t0, z0⟩ := F.called_set.mro
  have z1' := F.called_set.made; have z2' := F.called_set.sub
  refine wpAny_call (codeAny_of_tree ?_)
  show wpAny _ _ (callAny (.type "set") _) _ _ _ ; refine wpAny_pure ⟨Code.quiet_builtin _ (by decide +kernel), codeAny_builtin F.entry_type_call ?_⟩
  rw [Around.under_plain (weight_type_call_type "set" [.ref l] []) rfl]
  have z3' := F.called_set.notType; have z4' := F.called_set.canCreate
  have z5' := F.typeCall_set_1 (.ref l)
  repeat (any_goals (first | assumption | wp_step))
  have b0 : bareSet w = { cls := .type "set", dict := none, data := .set #[] 0 (.fresh 0 0 (!w.params.followText "set-order")) } := rfl
  refine codeAny_mono (code_set_led1 (.ref l) (E := E) (Q₁ := fun obj s₁ => obj = .ref s.heap.objs.size ∧ s₁ = { s with heap := s.heap.push (bareSet w) }) ⟨rfl, rfl⟩) fun r s₁ hr => ?_
  match r, hr with
  | .ok (.ret obj), hr =>
    obtain ⟨rfl, rfl⟩ := hr
    have hS : (s.heap.push (bareSet w)).get? s.heap.objs.size = some (bareSet w) := Heap.get?_push_size _ rfl
    have isSet : Shared.TypeIs { s with heap := s.heap.push (bareSet w) } (.ref s.heap.objs.size) "set" := ⟨_, hS, rfl⟩
    have y1' := F.called_set.init.lookup; have y2' := F.called_set.init.bind (.ref s.heap.objs.size)
    repeat (any_goals (first | assumption | wp_step))
    refine codeAny_mono (codeAny_call_builtin (R := wants (fun r s₂ => r = .none ∧ ∃ h' tk, s₂ = { s with heap := h', toks := tk } ∧ SetM P w h' s.heap.objs.size (gathered ks) ∧ (∀ b o, s.heap.get? b = some o → h'.get? b = some o)) E) F.called_set.init.plain F.entry_set_init (check_set_init_1 isSet ?_)) fun r₂ s₂ fin₂ => ?_
    · obtain ⟨ol, held, ecls, nl, edat⟩ := hl
      obtain ⟨oc, od, oda, osl⟩ := ol
      simp only at ecls edat
      subst ecls; subst edat
      have held' : (s.heap.push (bareSet w)).get? l = some { cls := .type "list", dict := od, data := .seq items nl, slots := osl } := Heap.get?_push_of_some _ held
      have x1' := F.sub_list_set
      have x2' := F.sub_list_frozenset
      have x3' : (Value.type "list" == Value.type "dict") = false := by decide
      have hl1 : (s.heap.push (bareSet w)).IsList l items := ⟨_, held', rfl, nl, rfl⟩
      unfold Builtin.«set.__init__» noKeywords Builtin.Frozenset.updateFrom
      generalize ePI : pyIter = PI
      wp_walk
      subst ePI
      refine wpAny_pyIter_list hl1 ?_
      refine wpAny_bind (wpAny_runValue ?_)
      have low : l < s.heap.objs.size := Heap.lt_size held
      have calm3 : A.in1.in1.in1.handled = none := by simp [hh]
      have z1 : (s.heap.push (bareSet w)).objs.size = s.heap.objs.size + 1 := Heap.size_push ..
      have ne1 : l ≠ (s.heap.push (bareSet w)).objs.size := by rw [z1]; exact Nat.ne_of_lt (Nat.lt_succ_of_lt low)
      have out : s.heap.objs.size ∉ [(s.heap.push (bareSet w)).objs.size, l] := by
        rw [z1]
        simp only [List.mem_cons, List.mem_singleton, List.not_mem_nil, or_false, not_or]
        exact ⟨Nat.ne_of_lt (Nat.lt_succ_self _), Nat.ne_of_gt low⟩
      refine set_takes ((Walks.list calm3 _ l ne1 items).toS) s.heap.objs.size out ks len few val (items.size - 0) 0 _ (by omega) (Nat.zero_le _)
        ⟨⟨_, Heap.get?_push_size _ rfl, rfl, rfl⟩, (hl1.push _)⟩ ?start ?fin
      case start =>
        exact setM_bare (Heap.get?_push_of_some _ hS)
      case fin =>
        intro s' mv R
        obtain ⟨h', g2, d', tk', os'⟩ := s'
        have eg : g2 = s.gens := mv.gens
        have ed : d' = s.drawn := mv.drawn
        have eo : os' = s.os := mv.os
        subst eg; subst ed; subst eo
        show wpAny _ _ _ _ _ _
        refine wpAny_pure ?_
        show wpAny _ _ (ret Value.none) _ _ _
        refine wpAny_pure ⟨rfl, h', tk', rfl, R, fun b o e => ?_⟩
        have lt : b < s.heap.objs.size := Heap.lt_size e
        refine mv.heap b o ?_ (Heap.get?_push_of_some _ (Heap.get?_push_of_some _ e))
        simp only [List.mem_cons, List.mem_singleton, List.not_mem_nil, or_false, not_or]
        rw [z1]
        exact ⟨Nat.ne_of_lt lt, Nat.ne_of_lt (Nat.lt_succ_of_lt lt)⟩
    · match r₂, fin₂ with
      | .ok (.ret r), fin₂ =>
        obtain ⟨rfl, h', tk, rfl, R, kp⟩ := fin₂
        repeat (any_goals (first | assumption | wp_step))
        exact done _ _ R kp
      | .ok .next, fin₂ => exact fin₂.elim
      | .ok .brk, fin₂ => exact fin₂.elim
      | .ok .cont, fin₂ => exact fin₂.elim
      | .error e, fin₂ => exact fin₂
  | .ok .next, hr => exact hr.elim
  | .ok .brk, hr => exact hr.elim
  | .ok .cont, hr => exact hr.elim
  | .error e, hr => exact hr
end
end Cut
set_option Elab.async false
set_option linter.all false
set_option maxRecDepth 100000
set_option maxHeartbeats 8000000
namespace Cut
open PySem PySem.Spec PyProof.Rows L2
section
variable {X : Cx}
theorem vals_keys {P : Program} {w : World} : ∀ {ks : List Key} {us : List Value}, Vals (ks.map kV) us → us.length = ks.length ∧ ∀ (i : Nat) v, us[i]? = some v → ∃ k, ks[i]? = some k ∧ keyIs k v = true
  | [], [], _ => ⟨rfl, fun i v h => by simp at h⟩
  | k :: ks, u :: us, h => by
    obtain ⟨r, t⟩ : RelV (kV k) u ∧ Vals (ks.map kV) us := by
      cases h with
      | cons r t => exact ⟨r, t⟩
    obtain ⟨h1, h2⟩ := vals_keys (P := P) (w := w) t
    refine ⟨by rw [List.length_cons, List.length_cons, h1], fun i v h => ?_⟩
    cases i with
    | zero =>
      rw [List.getElem?_cons_zero] at h
      cases h
      exact ⟨k, rfl, kV_is (P := P) (w := w) r⟩
    | succ i =>
      rw [List.getElem?_cons_succ] at h
      obtain ⟨j, hj, e⟩ := h2 i v h
      exact ⟨j, by rw [List.getElem?_cons_succ]; exact hj, e⟩
/-- set(xs), xs a list of keys -/
def rSetOfK (K : PySem.W.Frag) (P : Program) (w : World) : List V → Hp → VK → Prop := fun xs H Q => ∃ (l : Addr) (ks : List Key), xs = [V.ref l] ∧ SqL K H l (ks.map kV) ∧ ks.length + 1 < scanBound ∧ ∀ p, H p = none → Q (.ref p) (upd H p (SetMO P w p (gathered ks)))
theorem cr_setOfK (hc : X.calm = true) : CallR X (.type "set") (rSetOfK X.K X.prog X.w) := by
  intro pins s σ H xs us Q I r h
  obtain ⟨l, ks, rfl, hl, few, q⟩ := h
  rw [Vals.ref1 r]
  obtain ⟨its, rv, pl, hz⟩ := I.list hl
  have no : H s.heap.objs.size = none := I.hok.fresh (Nat.le_refl _)
  obtain ⟨e1, e2⟩ := vals_keys (P := X.prog) (w := X.w) rv
  refine call_set_keys (P := X.prog) (w := X.w) ks (I.ok.hd hc) pl.isList (by simpa using e1) (fun i v hv => e2 i v (by simpa using hv)) few fun h' tk R kp => ?_
  exact ⟨.ref s.heap.objs.size, upd H s.heap.objs.size (SetMO X.prog X.w s.heap.objs.size (gathered ks)), I.laid (t' := tk) kp (Nat.le_refl _) (setM_new R), rfl, q _ no⟩
/-- sorted(s), s a set of texts -/
def rSortedM (P : Program) (w : World) : List V → Hp → VK → Prop := fun xs H Q => ∃ (a : Addr) (ks : List Key), xs = [V.ref a] ∧ H a = some (SetMO P w a ks) ∧ (∀ k ∈ ks, ∃ x, k = .inr x) ∧ ks.length ≤ 1000 ∧ ∀ p, H p = none → Q (.ref p) (upd H p (.lst ((sortT (ks.filterMap txt)).map V.str)))
theorem cr_sortedM (hc : X.calm = true) (hu : X.A.units + 64 < cLine) : CallR X (.builtin "sorted") (rSortedM X.prog X.w) := by
  intro pins s σ H xs us Q I r h
  obtain ⟨a, ks, rfl, ha, texts, few, q⟩ := h
  rw [Vals.ref1 r]
  have big : ks.length ≤ sizeLine := Nat.le_trans few (Nat.le_of_lt (small1000 (Nat.lt_succ_self 999) |> fun _ => by rw [sizeLine_eq]; omega))
  refine sorted_setM (setM_get I ha) (I.ok.hd hc) texts hu big fun s' p out c k g o hp hg vals => ?_
  have no : H p = none := I.hok.fresh hp
  have len : ((sortT (ks.filterMap txt)).map V.str).length ≤ sizeLine := by
    rw [List.length_map, (sortT_perm _).length_eq]
    exact Nat.le_trans (List.length_filterMap_le _ _) big
  have J : L2.Inv X pins σ (upd H p (.lst ((sortT (ks.filterMap txt)).map V.str))) { s with heap := s'.heap, gens := s'.gens, drawn := s'.drawn, toks := s'.toks } :=
    I.call (ch := []) (Un.laid k hp no) (I.hok.laid k hp ⟨len, out, c, vals, hg⟩) (by rw [g]; exact I.bare) (fun _ z => nomatch z)
  have e : s' = { s with heap := s'.heap, gens := s'.gens, drawn := s'.drawn, toks := s'.toks } := by
    obtain ⟨h0, g0, d0, t0, o0⟩ := s'
    cases o
    rfl
  rw [e]
  exact ⟨.ref p, _, J, rfl, q p no⟩
/-- len(s) -/
def rLenM (P : Program) (w : World) : List V → Hp → VK → Prop := fun xs H Q => ∃ (a : Addr) (ks : List Key), xs = [V.ref a] ∧ H a = some (SetMO P w a ks) ∧ Q (.int (ks.length : Nat)) H
theorem cr_lenM : CallR X (.builtin "len") (rLenM X.prog X.w) := by
  intro pins s σ H xs us Q I r h
  obtain ⟨a, ks, rfl, ha, q⟩ := h
  rw [Vals.ref1 r]
  obtain ⟨o, es, ep, t, ho, hex, hd, good, perm, nd, small, fit, ris, led⟩ := setM_get I ha
  have many : es.size = ks.length := by rw [← perm.length_eq, List.length_map, Array.length_toList]
  have b : (es.size : Int) < 2 ^ 63 := by
    have := small
    unfold scanBound at this
    omega
  refine call_len_set ho hex hd fit b ⟨.int (ks.length : Nat), H, I.tok _, ⟨_, by rw [many]⟩, q⟩
end
end Cut
set_option Elab.async false
set_option linter.all false
set_option maxRecDepth 100000
set_option maxHeartbeats 8000000
namespace Cut
open PySem PySem.Spec PyProof.Rows L2
/-! ### sorted(a list of data that can be compared), any length -/
abbrev byData : V × PyData → V × PyData → Bool := PySem.W.dataLe false fun p : V × PyData => p.2
def rSortD (K : PySem.W.Frag) : List V → Hp → VK → Prop := fun vs H Q => ∃ (a : Addr) (L : List (V × PyData)), vs = [V.ref a] ∧ SqL K H a (L.map (·.1)) ∧ (∀ p ∈ L, Dp K H p.1 p.2 ∧ p.2.depth ≤ 60) ∧ PySem.W.AllAlike (L.map (·.2)) ∧ PySem.W.Sortable (L.map (·.2)) ∧
  ∀ p, H p = none → Q (.ref p) (upd H p (.lst ((L.mergeSort byData).map (·.1))))
theorem each_vals : ∀ {L : List (V × PyData)} {us : List Value}, Vals (L.map (·.1)) us → PySem.W.EachIs (fun v (b : V × PyData) => RelV b.1 v) us L
  | [], [], _ => .nil
  | p :: L, u :: us, h => by
    obtain ⟨r, t⟩ : RelV p.1 u ∧ Vals (L.map (·.1)) us := by
      cases h with
      | cons r t => exact ⟨r, t⟩
    exact .cons r (each_vals t)
theorem vals_each : ∀ {L : List (V × PyData)} {us : List Value}, PySem.W.EachIs (fun v (b : V × PyData) => RelV b.1 v) us L → Vals (L.map (·.1)) us
  | _, _, .nil => .nil
  | _, _, .cons r t => .cons r (vals_each t)
section
variable {X : Cx}
theorem each_reads {pins : List (Addr × Obj)} {σ : L2.St} {H : Hp} {s : Shared} (I : L2.Inv X pins σ H s) : ∀ {L : List (V × PyData)} {us : List Value}, (∀ p ∈ L, Dp X.K H p.1 p.2) → PySem.W.EachIs (fun v (b : V × PyData) => RelV b.1 v) us L → PySem.W.EachIs (fun v (b : V × PyData) => ∃ as, Reads s.heap v b.2 as) us L
  | _, _, _, .nil => .nil
  | _, _, d, .cons r t => .cons (Dp.reads I _ _ _ (d _ List.mem_cons_self) r) (each_reads I (fun p hp => d p (List.mem_cons_of_mem _ hp)) t)
theorem cr_sortD (hu : X.A.units + 64 < cLine) : CallR X (.builtin "sorted") (rSortD X.K) := by
  intro pins s σ H vs us Q I r h
  obtain ⟨a, L, rfl, hs, dp, hal, hso, q⟩ := h
  obtain ⟨its, rv, hl, hz⟩ := I.list hs
  rw [Vals.ref1 r]
  have e := each_vals rv
  have lz : L.length ≤ sizeLine := by
    rw [List.length_map] at hz
    exact hz
  refine PySem.W.sorted_data hl.isList e (each_reads I (fun p hp => (dp p hp).1) e) hal hso lz (fun b hb => ?_) fun out ho eo => ?_
  · have := (dp b hb).2
    show X.A.units + 2 + b.2.depth < cLine
    omega
  obtain ⟨ep, he'⟩ := PyProof.Rows.sortedAll_at s.heap its out.toArray
  have hlen : ((L.mergeSort byData).map (·.1)).length ≤ sizeLine := by
    rw [List.length_map, (List.mergeSort_perm _ _).length_eq]
    exact lz
  exact ⟨.ref _, upd H (s.heap.objs.size + 1) (.lst ((L.mergeSort byData).map (·.1))), I.laid (t' := s.toks) (fun _ _ => PyProof.Rows.sortedAll_old) (Nat.le_succ _) ⟨hlen, out, ep, vals_each eo, he'⟩, rfl, q _ (I.hok.fresh (Nat.le_succ _))⟩
end
end Cut
set_option Elab.async false
set_option linter.all false
set_option maxRecDepth 100000
set_option maxHeartbeats 4000000
namespace Cut
open PySem PySem.Spec PyProof.Rows L2
/-! ### arithmetic -/
abbrev PR : Int := 2305843009213693907
theorem fm_bd (x : Int) {m : Int} (h : 0 < m) : 0 ≤ x.fmod m ∧ x.fmod m < m := by
  rw [Int.fmod_eq_emod_of_nonneg x (Int.le_of_lt h)]
  exact ⟨Int.emod_nonneg x (by omega), Int.emod_lt_of_pos x h⟩
theorem nab {x : Int} {n : Nat} (h0 : 0 ≤ x) (h : x < (2 : Int) ^ n) : x.natAbs < 2 ^ n := by
  have e : ((2 ^ n : Nat) : Int) = (2 : Int) ^ n := by simp
  omega
theorem mulOk {a b : Int} {n m : Nat} (ha0 : 0 ≤ a) (ha : a < (2 : Int) ^ n) (hb0 : 0 ≤ b) (hb : b < (2 : Int) ^ m) (h0 : 0 < n) (h1 : 0 < m) (h : n + m ≤ 1000000) : CMulW a b :=
  wide_mul (nab ha0 ha) (nab hb0 hb) h0 h1 h
theorem pr0 : (PR : Int) ≠ 0 := by decide
/-! ### heaps -/
/-- all that is tracked stands as it was, but for what stands at a -/
def But (a : Addr) (H H' : Hp) : Prop := ∀ b o, b ≠ a → H b = some o → H' b = some o
theorem But.refl (a : Addr) (H : Hp) : But a H H := fun _ _ _ h => h
theorem But.trans {a : Addr} {H H1 H2 : Hp} (x : But a H H1) (y : But a H1 H2) : But a H H2 := fun b o n h => y b o n (x b o n h)
theorem But.same {a : Addr} {H H1 H2 : Hp} (x : But a H H1) (y : Same H1 H2) : But a H H2 := fun b o n h => y b o (x b o n h)
theorem Same.but {a : Addr} {H H1 : Hp} (x : Same H H1) : But a H H1 := fun b o _ h => x b o h
theorem But.upd {a : Addr} {H H1 : Hp} {o : HO} (x : But a H H1) : But a H (upd H1 a o) := fun b u n h => by
  rw [upd_ne n]
  exact x b u n h
theorem same_new {H : Hp} {p : Addr} {o : HO} (h : H p = none) : Same H (upd H p o) := fun b x e => by
  rw [upd_ne (ne_of_none e h)]
  exact e
theorem at_new {H : Hp} {p q : Addr} {o u : HO} (h : H q = some o) (n : H p = none) : upd H p u q = some o := by
  rw [upd_ne (ne_of_none h n)]
  exact h
theorem But.seqL {K : PySem.W.Frag} {H H' : Hp} {a l : Addr} {xs : List V} (e : But a H H') (h : SqL K H l xs) (n : l ≠ a) : SqL K H' l xs := by
  rcases h with (h | ⟨o, h⟩) | h
  · exact .inl (.inl (e _ _ n h))
  · exact .inl (.inr ⟨o, e _ _ n h⟩)
  · exact .inr h
/-! ### the pot that numbers are drawn from -/
/-- at a the pot [cells, place, amount, bound]; b holds the cells -/
structure Pot (H : Hp) (a b : Addr) (ns : List Int) (place amount top : Int) : Prop where
  at_ : H a = some (.lst [.ref b, .int place, .int amount, .int top])
  low : H b = some (.lst (ns.map V.int))
  ne : b ≠ a
  nn : ∀ z ∈ ns, 0 ≤ z
  len : ns.length ≤ 17
  p0 : 0 ≤ place
  a0 : 0 ≤ amount
/-- .. with a place of at most n -/
def PotN (H : Hp) (a b : Addr) (n : Int) : Prop := ∃ ns place amount top, Pot H a b ns place amount top ∧ place ≤ n
theorem Pot.move {H H' : Hp} {a b : Addr} {ns : List Int} {x y z : Int} (p : Pot H a b ns x y z) (s : ∀ c o, (c = a ∨ c = b) → H c = some o → H' c = some o) : Pot H' a b ns x y z :=
  ⟨s _ _ (.inl rfl) p.at_, s _ _ (.inr rfl) p.low, p.ne, p.nn, p.len, p.p0, p.a0⟩
theorem Pot.same {H H' : Hp} {a b : Addr} {ns : List Int} {x y z : Int} (p : Pot H a b ns x y z) (s : Same H H') : Pot H' a b ns x y z := p.move fun c o _ e => s c o e
theorem PotN.same {H H' : Hp} {a b : Addr} {n : Int} (p : PotN H a b n) (s : Same H H') : PotN H' a b n :=
  let ⟨ns, x, y, z, h, l⟩ := p; ⟨ns, x, y, z, h.same s, l⟩
theorem PotN.mono {H : Hp} {a b : Addr} {n m : Int} (p : PotN H a b n) (h : n ≤ m) : PotN H a b m :=
  let ⟨ns, x, y, z, h', l⟩ := p; ⟨ns, x, y, z, h', Int.le_trans l h⟩
theorem PotN.put {H : Hp} {a b p : Addr} {o : HO} {n : Int} (x : PotN H a b n) (h1 : p ≠ a) (h2 : p ≠ b) : PotN (upd H p o) a b n := by
  obtain ⟨ns, p1, p2, p3, h', l⟩ := x
  refine ⟨ns, p1, p2, p3, h'.move fun c u hc e => ?_, l⟩
  rw [upd_ne (fun z => by rcases hc with hc | hc <;> (rw [hc] at z; first | exact h1 z.symm | exact h2 z.symm))]
  exact e
theorem PotN.at1 {H : Hp} {a b : Addr} {n : Int} (x : PotN H a b n) : ∃ o, H a = some o := let ⟨_, _, _, _, h, _⟩ := x; ⟨_, h.at_⟩
theorem PotN.at2 {H : Hp} {a b : Addr} {n : Int} (x : PotN H a b n) : ∃ o, H b = some o := let ⟨_, _, _, _, h, _⟩ := x; ⟨_, h.low⟩
theorem PotN.ne12 {H : Hp} {a b : Addr} {n : Int} (x : PotN H a b n) : b ≠ a := let ⟨_, _, _, _, h, _⟩ := x; h.ne
/-! ### ints as data -/
theorem ints_dp {K : PySem.W.Frag} {H : Hp} : ∀ ns : List Int, DpAll K H (ns.map V.int) (ns.map PyData.int)
  | [] => .nil
  | z :: r => .cons (.int z) (ints_dp r)
theorem ints_lay : ∀ ns : List Int, PyData.canLayAll0 (ns.map PyData.int) = true
  | [] => by simp only [List.map_nil, PyData.canLayAll0]
  | z :: r => by
    have h := ints_lay r
    simp only [List.map_cons, PyData.canLayAll0, PyData.canLay0, h, Bool.and_self]
theorem ints_depth : ∀ ns : List Int, PyData.depthAll (ns.map PyData.int) ≤ 1
  | [] => by simp only [List.map_nil, PyData.depthAll]; omega
  | z :: r => by
    have h := ints_depth r
    simp only [List.map_cons, PyData.depthAll, PyData.depth]
    omega
theorem ints_shaped (ns : List Int) : SeqAt.shaped (.list (ns.map PyData.int)) = true := by
  have h1 := ints_depth ns
  have h2 : PyData.depth (.list (ns.map PyData.int)) ≤ 64 := by
    simp only [PyData.depth]
    omega
  show (PyData.canLay0 (.list (ns.map PyData.int)) && decide (PyData.depth (.list (ns.map PyData.int)) ≤ 64)) = true
  rw [Bool.and_eq_true]
  exact ⟨by simp only [PyData.canLay0]; exact ints_lay ns, decide_eq_true h2⟩
theorem ints_empty (ns : List Int) : (!PyData.eqv (.list (ns.map PyData.int)) (.list [])) = !ns.isEmpty := by
  cases ns with
  | nil => simp only [List.map_nil, PyData.eqv, PyData.eqvAll, List.isEmpty]
  | cons z r => simp only [List.map_cons, PyData.eqv, PyData.eqvAll, List.isEmpty]
theorem ints_at {ns : List Int} (h : ns ≠ []) (x : Int) : ∃ z ∈ ns, atI (ns.map V.int) (x.fmod ((ns.map V.int).length : Nat)) = some (.int z) := by
  have hl : 0 < (ns.map V.int).length := by
    cases ns with
    | nil => exact absurd rfl h
    | cons z r => simp
  have b := fm_bd x (m := ((ns.map V.int).length : Nat)) (by omega)
  generalize x.fmod ((ns.map V.int).length : Nat) = k at b ⊢
  obtain ⟨j, rfl⟩ : ∃ j : Nat, k = (j : Int) := ⟨k.toNat, by omega⟩
  have hj : j < ns.length := by
    have e : (ns.map V.int).length = ns.length := List.length_map ..
    omega
  refine ⟨ns[j], List.getElem_mem hj, atI_nat ?_⟩
  rw [List.getElem?_map, List.getElem?_eq_getElem hj]
  rfl
theorem tyes {σ : L2.St} {H : Hp} {F G : Hp → Prop} (h : F H) : tYes σ H (fun b H3 => if b = true then F H3 else G H3) := by
  show (if true = true then F H else G H)
  rw [if_pos rfl]
  exact h
theorem cut_ints (ns : List Int) (lo hi : Option Int) : ∃ ms : List Int, cutV (ns.map V.int) lo hi = ms.map V.int ∧ ms.length = (cutV (ns.map V.int) lo hi).length := by
  unfold cutV
  refine ⟨(ns.drop (HT.sIx (ns.map V.int).length 0 lo)).take (HT.sIx (ns.map V.int).length (ns.map V.int).length hi - HT.sIx (ns.map V.int).length 0 lo), ?_, ?_⟩
  · rw [List.map_take, List.map_drop]
  · rw [← List.map_drop, ← List.map_take, List.length_map, List.length_map]
theorem cut_first (xs : List V) : (cutV xs none (some 17)).length = min 17 xs.length := by
  unfold cutV
  rw [show HT.sIx xs.length xs.length (some 17) = min 17 xs.length from HT.sIx_nat xs.length xs.length 17, HT.sIx_none, List.drop_zero, List.length_take]
  omega
theorem cut_then (xs : List V) (h : 0 < (cutV xs (some 17) (some 60)).length) : 17 < xs.length := by
  unfold cutV at h
  rw [show HT.sIx xs.length 0 (some 17) = min 17 xs.length from HT.sIx_nat xs.length 0 17, List.length_take, List.length_drop] at h
  omega
theorem abs_nn (x : Int) : (0 : Int) ≤ (if x < 0 then -x else x) := by
  split <;> omega
theorem at_ix {xs : List V} {k : Int} {v : V} (h : atI xs k = some v) : ∃ j, ixN xs.length k = some j ∧ xs[j]? = some v := by
  unfold atI at h
  exact Option.bind_eq_some_iff.mp h
theorem get_int {ns : List Int} {i : Nat} {x : V} (h : (ns.map V.int)[i]? = some x) : ∃ z, ns[i]? = some z ∧ x = .int z := by
  rw [List.getElem?_map] at h
  cases e : ns[i]? with
  | none => rw [e] at h; cases h
  | some z => rw [e] at h; exact ⟨z, rfl, (Option.some.inj h).symm⟩
theorem get_nn {ns : List Int} {i : Nat} {x : V} (nn : ∀ z ∈ ns, 0 ≤ z) (h : (ns.map V.int)[i]? = some x) : ∃ z, 0 ≤ z ∧ x = .int z := by
  obtain ⟨z, hz, e⟩ := get_int h
  exact ⟨z, nn z (List.mem_of_getElem? hz), e⟩
def ifBody : Stmt → List Stmt
  | .If _ b _ _ => b
  | _ => []
/-- the built-ins that the draws call -/
structure Blt (mg : Str → Option Value) : Prop where
  int : mg "int" = none
  range : mg "range" = none
  len : mg "len" = none
  abs : mg "abs" = none
  enum : mg "enumerate" = none
  list : mg "list" = none
  tuple : mg "tuple" = none
  sorted : mg "sorted" = none
  set : mg "set" = none
  isi : mg "isinstance" = none
  repr : mg "repr" = none
  str : mg "str" = none
end Cut
set_option Elab.async false
set_option linter.all false
set_option maxRecDepth 100000
set_option maxHeartbeats 4000000
namespace Cut
open PySem PySem.Spec PyProof.Rows L2
/-! where the defs stand: this text alone changes from law to law -/
def topS (i : Nat) : Stmt := PySem.Challenge.pw_answercut_k14_whole_line_or_triad.main.body.getD i (.Pass ⟨0, 0, 0, 0⟩)
abbrev sPartNames : Stmt := topS 5
abbrev sPieces : Stmt := topS 6
abbrev sTouches : Stmt := topS 7
abbrev sLooseT : Stmt := topS 9
abbrev sRuling : Stmt := topS 10
abbrev sRulingBy : Stmt := topS 11
abbrev sAsTuples : Stmt := topS 12
abbrev sRuled : Stmt := topS 13
abbrev sRules : Stmt := topS 14
abbrev sNamesBy : Stmt := topS 15
abbrev sLineOf : Stmt := topS 16
abbrev sTriadOf : Stmt := topS 17
abbrev sNeedLine : Stmt := topS 18
abbrev sShowsLine : Stmt := topS 19
abbrev sShowsTriad : Stmt := topS 20
abbrev sInOrder : Stmt := topS 21
abbrev sTurns : Stmt := topS 22
abbrev sIsLineP : Stmt := topS 23
abbrev sIsTriad : Stmt := topS 24
abbrev sReachedAll : Stmt := topS 25
abbrev sReachedPast : Stmt := topS 26
abbrev sTouchPast : Stmt := topS 27
abbrev sChain : Stmt := topS 28
abbrev sIsChainP : Stmt := topS 29
abbrev sIsTableOf : Stmt := topS 30
abbrev sKneaded : Stmt := topS 32
abbrev sPot : Stmt := topS 33
abbrev sBelow : Stmt := topS 34
abbrev sPick : Stmt := topS 35
abbrev sSame : Stmt := topS 36
abbrev sShapes : Stmt := topS 37
abbrev sSomeQ : Stmt := topS 38
abbrev sSomeP : Stmt := topS 40
abbrev sNamesIn : Stmt := topS 41
abbrev sOwn : Stmt := topS 45
abbrev sReached : Stmt := topS 46
abbrev sAllPieces : Stmt := topS 47
abbrev sPartBy : Stmt := topS 48
abbrev sDoesPart : Stmt := topS 52
abbrev sFirstLine : Stmt := topS 54
abbrev sGrown : Stmt := topS 55
abbrev sIsEnd : Stmt := topS 56
abbrev sFirstTriad : Stmt := topS 57
abbrev sIsChain : Stmt := topS 58
abbrev sNeedPaper : Stmt := topS 59
abbrev sRight : Stmt := topS 60
abbrev sLaw : Stmt := topS 61
abbrev sRulesL : Stmt := topS 49
abbrev sLooseL : Stmt := topS 50
abbrev sFirst : Stmt := topS 51
end Cut
set_option Elab.async false
set_option linter.all false
set_option maxRecDepth 100000
set_option maxHeartbeats 8000000
namespace Cut
open PySem PySem.Spec PyProof.Rows L2
abbrev NK : List Str := ["seed", "lap", "prime", "amount", "again"]
abbrev NB : List Str := ["pot", "bound", "cells", "place", "amount", "found"]
abbrev NP : List Str := ["script", "cell", "cells", "place"]
theorem scKneaded : FnScope NK ["seed", "lap"] (defScope sKneaded) := ⟨rfl, rfl, rfl, by decide +kernel, rfl, by decide +kernel, by decide +kernel⟩
theorem scBelow : FnScope NB ["pot", "bound"] (defScope sBelow) := ⟨rfl, rfl, rfl, by decide +kernel, rfl, by decide +kernel, by decide +kernel⟩
theorem scPick : FnScope ["pot", "items"] ["pot", "items"] (defScope sPick) := ⟨rfl, rfl, rfl, by decide +kernel, rfl, by decide +kernel, by decide +kernel⟩
theorem scPot : FnScope NP ["script"] (defScope sPot) := ⟨rfl, rfl, rfl, by decide +kernel, rfl, by decide +kernel, by decide +kernel⟩
section
variable {P : Program} {w : World} {K : PySem.W.Frag} {mg : Str → Option Value} {base : Heap}
def spKneaded : Sp := fun vs H Q _ => ∃ a b : Int, vs = [.int a, .int b] ∧ 0 ≤ a ∧ a < 2 ^ 60 ∧ 0 ≤ b ∧ b < 2 ^ 60 ∧ ∀ r : Int, 0 ≤ r → Q (.int r) H
theorem ok_kneaded {f : Addr} {fd : FuncData} (F : Fun K "_law_kneaded" "_law_kneaded" sKneaded f fd) (B : Blt mg) : FnOk P w K mg base CX0 1 f fd ["seed", "lap"] spKneaded := by
  refine F.ok scKneaded (fun vs H Q E h => ?_) (fun cdv A outer s H vs Q E hr h => ?_)
  · obtain ⟨a, b, rfl, _⟩ := h
    rfl
  · obtain ⟨a, b, rfl, ha0, ha1, hb0, hb1, q⟩ := h
    refine ⟨_, pss_cons (ps_set (i := 2) scKneaded.nd rfl (.inl rfl) pe_int)
      (pss_cons (ps_set (i := 3) scKneaded.nd rfl (.inl rfl) (pe_op op_modN (pe_op op_add (pe_op op_add (pe_op op_mulW (pv 0) pe_int) (pe_op op_mulW (pv 1) pe_int)) pe_int) (pv 2)))
      (pss_cons (ps_for PassesOwn.never rfl (pi_range1 (by rfl) B.range (pa_cons pe_int pa_nil)) (pg_name (i := 4) scKneaded.nd rfl (.inl rfl))
        (pss_one (ps_set (i := 3) scKneaded.nd rfl (.inl rfl) (pe_op op_modN (pe_op op_add (pe_op op_add (pe_op op_add (pe_op op_mulW (pv 3) (pv 3)) (pe_op op_mulW pe_int (pv 3))) (pe_op op_mulW pe_int (pv 4))) (pv 1)) (pv 2)))))
      (pss_one (ps_ret (pe_op op_add (pe_op op_mulW (pv 3) (pv 2)) (pe_op op_modN (pe_op op_add (pe_op op_mulW (pv 3) pe_int) (pv 1)) (pv 2))))))), ?_⟩
    have hp : (PR : Int) < 2 ^ 61 := by decide
    refine ⟨_, rfl, _, _, rfl, rfl, mulOk (n := 60) (m := 63) ha0 ha1 (by decide) (by decide) (by decide) (by decide) (by decide), _, rfl, _, _, rfl, rfl, mulOk (n := 60) (m := 63) hb0 hb1 (by decide) (by decide) (by decide) (by decide) (by decide), _, _, rfl, rfl, _, _, rfl, rfl, _, rfl, _, _, rfl, rfl, pr0, ?_⟩
    have b1 := fm_bd (a * 2862933555777941757 + b * 3037000493 + 29) (m := PR) (by decide)
    refine ⟨4, rfl, by decide, by decide, for_range (n := 4) (fun i σ H' => ∃ f l, σ = [some (.int a), some (.int b), some (.int PR), some (.int f), l] ∧ 0 ≤ f ∧ f < PR ∧ H' = H) ⟨_, none, rfl, b1.1, b1.2, rfl⟩ ?_ ?_⟩
    · rintro i σ H' hi ⟨f, l, rfl, f0, f1, rfl⟩
      have g : f < 2 ^ 61 := Int.lt_trans f1 hp
      refine ⟨_, rfl, _, rfl, _, _, rfl, rfl, mulOk (n := 61) (m := 61) f0 g f0 g (by decide) (by decide) (by decide), _, rfl, _, _, rfl, rfl, mulOk (n := 4) (m := 61) (by decide) (by decide) f0 g (by decide) (by decide) (by decide), _, _, rfl, rfl, _, rfl, _, _, rfl, rfl, mulOk (n := 13) (m := 3) (by decide) (by decide) (by omega) (by show (0 : Int) + (i : Int) < 8; omega) (by decide) (by decide) (by decide), _, _, rfl, rfl, _, rfl, _, _, rfl, rfl, _, rfl, _, _, rfl, rfl, pr0, ?_⟩
      have b2 := fm_bd (f * f + 11 * f + 4099 * (0 + (i : Int)) + b) (m := PR) (by decide)
      exact ⟨_, _, rfl, b2.1, b2.2, rfl⟩
    · rintro σ H' ⟨f, l, rfl, f0, f1, rfl⟩
      have g : f < 2 ^ 61 := Int.lt_trans f1 hp
      refine ⟨_, rfl, _, rfl, _, _, rfl, rfl, mulOk (n := 61) (m := 61) f0 g (by decide) hp (by decide) (by decide) (by decide), _, rfl, _, _, rfl, rfl, mulOk (n := 61) (m := 17) f0 g (by decide) (by decide) (by decide) (by decide) (by decide), _, rfl, _, _, rfl, rfl, _, rfl, _, _, rfl, rfl, pr0, _, _, rfl, rfl, ?_⟩
      have b3 := fm_bd (f * 69621 + b) (m := PR) (by decide)
      exact q _ (Int.add_nonneg (Int.mul_nonneg f0 (by decide)) b3.1)
end
end Cut
set_option Elab.async false
set_option linter.all false
set_option maxRecDepth 100000
set_option maxHeartbeats 8000000
namespace Cut
open PySem PySem.Spec PyProof.Rows L2
section
variable {P : Program} {w : World} {K : PySem.W.Frag} {mg : Str → Option Value} {base : Heap}
def spBelow : Sp := fun vs H Q _ => ∃ (a b : Addr) (many n : Int), vs = [.ref a, .int many] ∧ PotN H a b n ∧ n < 2 ^ 40 ∧ 0 < many ∧ many.natAbs < 2 ^ 8000 ∧
  ∀ (r : Int) (H' : Hp), 0 ≤ r → r < many → But a H H' → PotN H' a b (n + 1) → Q (.int r) H'
theorem ok_below {f fS : Addr} {fd fdS : FuncData} (F : Fun K "_law_below" "_law_below" sBelow f fd) (B : Blt mg) (FS : Fun K "_law_kneaded" "_law_kneaded" sKneaded fS fdS) (bS : Binds K fdS ["seed", "lap"] []) (gS : mg "_law_kneaded" = some (.ref fS)) : FnOk P w K mg base CX0 2 f fd ["pot", "bound"] spBelow := by
  have GS : FnOk P w K mg base CX0 1 fS fdS ["seed", "lap"] spKneaded := ok_kneaded FS B
  refine F.ok scBelow (fun vs H Q E h => ?_) (fun cdv A outer s H vs Q E hr h => ?_)
  · obtain ⟨a, b, many, n, rfl, _⟩ := h
    rfl
  · obtain ⟨a, b, many, n, rfl, ⟨ns, spot, cell, top, S, hs⟩, hn, hm, hmb, q⟩ := h
    have ixA : ∀ {H1 : Hp} {b : Addr} {ns : List Int} {sp ce to : Int}, Pot H1 a b ns sp ce to → SqL K H1 a [.ref b, .int sp, .int ce, .int to] := fun S => SqL.of S.at_
    obtain ⟨tR, hR, fin⟩ : ∃ t : TS, PSs (cxOf CX0 P w K mg base NB "_law_below" (defScope sBelow) f cdv A outer s H E).nox ((defBody sBelow).drop 1) t ∧
        ∀ (H1 : Hp) (x2 x3 x4 x5 : Option V) (ns : List Int) (sp ce to : Int), Pot H1 a b ns sp ce to → sp ≤ n + 1 → But a H H1 → t { nx := fun _ H' => Q .non H', rt := Q } [some (.ref a), some (.int many), x2, x3, x4, x5] H1 := by
      refine ⟨_, pss_cons (ps_set (i := 5) scBelow.nd rfl (.inl rfl) (pe_op op_modN (pe_callTy call_int1 (by rfl) B.int (by decide +kernel) (pa_cons (pe_ix ix_list (pv 0) pe_int (fun _ _ => rfl)) pa_nil)) (pv 1)))
        (pss_cons (ps_asg (pe_op op_fdivW (pe_ix ix_list (pv 0) pe_int (fun _ _ => rfl)) (pv 1)) (pg_sub (pv 0) pe_int set_list))
        (pss_cons (ps_asg (pe_op op_fdivW (pe_ix ix_list (pv 0) pe_int (fun _ _ => rfl)) (pv 1)) (pg_sub (pv 0) pe_int set_list))
        (pss_one (ps_ret (pv 5))))), fun H1 x2 x3 x4 x5 ns sp ce to S hsp hbut => ?_⟩
      refine ⟨_, rfl, a, _, 2, .int ce, rfl, rfl, ixA S, rfl, .inl ⟨_, rfl, _, rfl, _, _, rfl, rfl, (by show many ≠ 0; omega), ?_⟩⟩
      have bd := fm_bd ce hm
      refine ⟨_, rfl, a, _, 2, .int ce, rfl, rfl, ixA S, rfl, _, rfl, _, _, rfl, rfl, wide_div hm hmb (by decide) (by decide), ?_⟩
      refine ⟨_, rfl, a, _, 2, 2, rfl, rfl, S.at_, rfl, ?_⟩
      refine ⟨_, rfl, a, [.ref b, .int sp, .int (ce / many), .int to], 3, .int to, rfl, rfl, SqL.of upd_same, rfl, _, rfl, _, _, rfl, rfl, wide_div hm hmb (by decide) (by decide), ?_⟩
      refine ⟨_, rfl, a, _, 3, 3, rfl, rfl, upd_same, rfl, ?_⟩
      refine ⟨_, rfl, q _ _ bd.1 bd.2 hbut.upd.upd ⟨ns, sp, ce / many, to / many, ⟨upd_same, ?_, S.ne, S.nn, S.len, S.p0, Int.ediv_nonneg S.a0 (Int.le_of_lt hm)⟩, hsp⟩⟩
      rw [upd_ne S.ne, upd_ne S.ne]
      exact S.low
    obtain ⟨t3, h3, fin3⟩ : ∃ t : TS, PSs (cxOf CX0 P w K mg base NB "_law_below" (defScope sBelow) f cdv A outer s H E).nox ((ifBody ((defBody sBelow).getD 0 (.Pass ⟨0, 0, 0, 0⟩))).drop 3) t ∧
        ∀ (H1 : Hp) (c : Int), 0 ≤ c → Pot H1 a b ns spot cell top → But a H H1 → t { nx := tR { nx := fun _ H' => Q .non H', rt := Q }, rt := Q } [some (.ref a), some (.int many), some (.ref b), some (.int spot), some (.int c), none] H1 := by
      refine ⟨_, pss_cons (ps_asg (pe_op op_add (pv 3) pe_int) (pg_sub (pv 0) pe_int set_list)) (pss_cons (ps_asg (pv 4) (pg_sub (pv 0) pe_int set_list)) (pss_one (ps_asg (pv 4) (pg_sub (pv 0) pe_int set_list)))), fun H1 c hc S hbut => ?_⟩
      refine ⟨_, rfl, _, _, rfl, rfl, _, rfl, a, _, 1, 1, rfl, rfl, S.at_, rfl, ?_⟩
      refine ⟨_, rfl, _, rfl, a, _, 2, 2, rfl, rfl, upd_same, rfl, ?_⟩
      refine ⟨_, rfl, _, rfl, a, _, 3, 3, rfl, rfl, upd_same, rfl, ?_⟩
      refine fin _ _ _ _ _ ns (spot + 1) c c ⟨upd_same, ?_, S.ne, S.nn, S.len, by have := S.p0; omega, hc⟩ (by omega) hbut.upd.upd.upd
      rw [upd_ne S.ne, upd_ne S.ne, upd_ne S.ne]
      exact S.low
    obtain ⟨t2, h2, fin2⟩ : ∃ t : TS, PSs (cxOf CX0 P w K mg base NB "_law_below" (defScope sBelow) f cdv A outer s H E).nox ((ifBody ((defBody sBelow).getD 0 (.Pass ⟨0, 0, 0, 0⟩))).drop 2) t ∧
        ∀ (H1 : Hp) (c : Int), 0 ≤ c → Pot H1 a b ns spot cell top → But a H H1 → t { nx := tR { nx := fun _ H' => Q .non H', rt := Q }, rt := Q } [some (.ref a), some (.int many), some (.ref b), some (.int spot), some (.int c), none] H1 := by
      refine ⟨_, pss_cons (ps_if (PW.pt (pw_or (pt_cmpR op_ge (pv 3) (pe_callB call_len_seq (by rfl) B.len PySem.boot_len (pa_cons (pv 2) pa_nil)) (nomark _)) (pw_or1 (pt_cmpR op_lt (pv 4) (pe_op op_pow pe_int pe_int) (nomark _)))))
          (pss_one (ps_set (i := 4) scBelow.nd rfl (.inl rfl) (pe_call GS hr (by rfl) gS FS.kp bS .nil pass0 (pa_cons (pe_op op_modN (pe_callTy call_int1 (by rfl) B.int (by decide +kernel) (pa_cons (pv 4) pa_nil)) pe_int) (pa_cons (pv 3) pa_nil))))) pss_nil) h3, fun H1 c hc S hbut => ?_⟩
      have go : ∀ r : Int, 0 ≤ r → _ := fun r hr => fin3 H1 r hr S hbut
      have b1 := fm_bd c (m := 982451629) (by decide)
      have p0 := S.p0
      refine ⟨_, rfl, _, rfl, b, _, rfl, .inl (SqL.of S.low), _, _, rfl, rfl, _, rfl, ite2 (fun _ => iteT ?_) (fun _ => ⟨_, rfl, _, _, rfl, rfl, ⟨by decide, by decide, by decide⟩, _, _, rfl, rfl, _, rfl, ite2 (fun _ => ?_) (fun _ => go c hc)⟩)⟩
      all_goals
        have u1 : (982451629 : Int) < 2 ^ 60 := by decide
        have u2 : (2 : Int) ^ 40 < 2 ^ 60 := by decide
        exact ⟨_, rfl, .inl ⟨_, rfl, _, _, rfl, rfl, (by show (982451629 : Int) ≠ 0; decide), _, rfl, _, _, rfl, b1.1, Int.lt_trans b1.2 u1, p0, by omega, fun r hr => go r hr⟩⟩
    refine ⟨_, pss_cons (ps_if (pt_cmpR op_lt (pe_ix ix_list (pv 0) pe_int (fun _ _ => rfl)) (pv 1) (nomark _))
        (pss_cons (ps_par (i := 2) (j := 3) (by rfl) scBelow.nd rfl rfl (by decide) rfl rfl (pa_cons (pe_ix ix_list (pv 0) pe_int (fun _ _ => rfl)) (pa_cons (pe_ix ix_list (pv 0) pe_int (fun _ _ => rfl)) pa_nil)) (by rfl))
        (pss_cons (ps_set (i := 4) scBelow.nd rfl (.inl rfl) (pe_ifExp (pt_cmpR (op_neD hr.units) (pv 2) (pe_lst pa_nil) (nomark _)) (pe_ix ix_list (pv 2) (pe_op op_modN (pv 3) (pe_callB call_len_seq (by rfl) B.len PySem.boot_len (pa_cons (pv 2) pa_nil))) (fun _ _ => rfl)) pe_int)) h2)) pss_nil) hR, ?_⟩
    refine ⟨_, rfl, a, _, 3, .int top, rfl, rfl, ixA S, rfl, _, rfl, _, _, rfl, rfl, _, rfl, ite2 (fun _ => ?_) (fun _ => fin H none none none none ns spot cell top S (by omega) (But.refl _ _))⟩
    refine ⟨_, rfl, a, _, 0, .ref b, rfl, rfl, ixA S, rfl, _, rfl, a, _, 1, .int spot, rfl, rfl, ixA S, rfl, _, _, rfl, ?_⟩
    refine ⟨_, rfl, Nat.zero_le _, fun e he => ?_⟩
    have s1 : Same H (upd H e (.lst [])) := same_new he
    have S1 := S.same s1
    have hE : SqL K (upd H e (.lst [])) e [] := SqL.of upd_same
    have hB : SqL K (upd H e (.lst [])) b (ns.map V.int) := SqL.of S1.low
    refine ⟨.list (ns.map .int), .list [], .lst hB (ints_dp ns), .lst hE .nil, ints_shaped ns, by decide, _, rfl, ?_⟩
    rw [ints_empty]
    by_cases hne : ns = []
    · subst hne
      exact iteF (fin2 _ 0 (by decide) S1 (Same.but s1))
    · have e1 : (!ns.isEmpty) = true := by
        cases ns with
        | nil => exact absurd rfl hne
        | cons z r => rfl
      rw [e1]
      obtain ⟨z, hz, hat⟩ := ints_at hne spot
      refine iteT ⟨_, rfl, _, rfl, _, rfl, b, _, rfl, .inl hB, _, _, rfl, rfl, ?_, b, _, _, _, rfl, rfl, hB, hat, ?_⟩
      · show (((ns.map V.int).length : Nat) : Int) ≠ 0
        have e : (ns.map V.int).length = ns.length := List.length_map ..
        have e2 : 0 < ns.length := List.length_pos_iff.mpr hne
        omega
      · exact fin2 _ z (S.nn z hz) S1 (Same.but s1)
end
end Cut
set_option Elab.async false
set_option linter.all false
set_option maxRecDepth 100000
set_option maxHeartbeats 8000000
namespace Cut
open PySem PySem.Spec PyProof.Rows L2
section
variable {P : Program} {w : World} {K : PySem.W.Frag} {mg : Str → Option Value} {base : Heap}
def spPick (K : PySem.W.Frag) : Sp := fun vs H Q _ => ∃ (a b l : Addr) (n : Int) (xs : List V), vs = [.ref a, .ref l] ∧ PotN H a b n ∧ n < 2 ^ 40 ∧ SqL K H l xs ∧ l ≠ a ∧ 0 < xs.length ∧ xs.length < 2 ^ 60 ∧
  ∀ (i : Nat) (x : V) (H' : Hp), xs[i]? = some x → But a H H' → PotN H' a b (n + 1) → Q x H'
theorem ok_pick {f fU : Addr} {fd fdU : FuncData} (F : Fun K "_law_pick" "_law_pick" sPick f fd) (B : Blt mg) (FU : Fun K "_law_below" "_law_below" sBelow fU fdU) (GU : FnOk P w K mg base CX0 2 fU fdU ["pot", "bound"] spBelow) (bU : Binds K fdU ["pot", "bound"] []) (gU : mg "_law_below" = some (.ref fU)) :
    FnOk P w K mg base CX0 3 f fd ["pot", "items"] (spPick K) := by
  refine F.ok scPick (fun vs H Q E h => ?_) (fun cdv A outer s H vs Q E hr h => ?_)
  · obtain ⟨a, b, l, n, xs, rfl, _⟩ := h
    rfl
  · obtain ⟨a, b, l, n, xs, rfl, S, hn, hl, hne, h0, h1, q⟩ := h
    refine ⟨_, pss_one (ps_ret (pe_ix ix_list (pv 1) (pe_call GU hr (by rfl) gU FU.kp bU .nil pass0 (pa_cons (pv 0) (pa_cons (pe_callB call_len_seq (by rfl) B.len PySem.boot_len (pa_cons (pv 1) pa_nil)) pa_nil))) (fun _ _ => rfl))), ?_⟩
    have t : (2 : Nat) ^ 60 ≤ 2 ^ 8000 := Nat.pow_le_pow_right (by decide) (by decide)
    refine ⟨_, rfl, _, rfl, _, rfl, l, _, rfl, .inl hl, a, b, xs.length, n, rfl, S, hn, by omega, by omega, fun r H' r0 r1 but S' => ?_⟩
    obtain ⟨j, rfl⟩ : ∃ j : Nat, r = (j : Int) := ⟨r.toNat, by omega⟩
    have hj : j < xs.length := by omega
    exact ⟨l, _, _, xs[j], rfl, rfl, but.seqL hl hne, atI_nat (List.getElem?_eq_getElem hj), q j _ H' (List.getElem?_eq_getElem hj) but S'⟩
def spPot (K : PySem.W.Frag) : Sp := fun vs H Q _ => ∃ (a : Addr) (ns : List Int), vs = [.ref a] ∧ SqL K H a (ns.map V.int) ∧ ∀ (H' : Hp) (p b : Addr), Same H H' → H p = none → H b = none → PotN H' p b 0 → Q (.ref p) H'
theorem ok_pot {f : Addr} {fd : FuncData} (F : Fun K "_law_pot_of" "_law_pot_of" sPot f fd) (B : Blt mg) : FnOk P w K mg base CX0 1 f fd ["script"] (spPot K) := by
  refine F.ok scPot (fun vs H Q E h => ?_) (fun cdv A outer s H vs Q E hr h => ?_)
  · obtain ⟨a, ns, rfl, _⟩ := h
    rfl
  · obtain ⟨a, ns, rfl, hS, q⟩ := h
    refine ⟨_, pss_cons (ps_setLc (i := 2) (own := [("cell", 1)]) (g := gName 1) (by rfl) scPot.nd rfl rfl (sw_true rfl rfl rfl (by decide +kernel)) (pi_list (pe_slice sl_list (pv 0) po_none (po_some pe_int)))
          (blkOk_by (own := [("cell", 1)]) (N := NP) (sc := defScope sPot) (by decide +kernel)) (fun _ _ _ _ _ => pg_name (i := 1) scPot.nd rfl (Or.inl rfl)) (fun _ _ _ _ _ => pts_nil)
          (fun _ _ _ _ _ => pe_callB call_abs (by rfl) B.abs (by decide +kernel) (pa_cons (pv 1) pa_nil)))
      (pss_cons (ps_for PassesOwn.never rfl (pi_enum (by rfl) B.enum (pa_cons (pe_slice sl_list (pv 0) (po_some pe_int) (po_some pe_int)) pa_nil)) (pg_tup (by rfl) (pgs_cons (pg_name (i := 3) scPot.nd rfl (.inl rfl)) (pgs_cons (pg_name (i := 1) scPot.nd rfl (.inl rfl)) pgs_nil)))
        (pss_one (ps_asg (pe_op op_add (pe_ix ix_list (pv 2) (pe_op op_modN (pv 3) pe_int) (fun _ _ => rfl)) (pe_callB call_abs (by rfl) B.abs (by decide +kernel) (pa_cons (pv 1) pa_nil)))
          (pg_sub (pv 2) (pe_op op_modN (pv 3) pe_int) set_list))))
      (pss_one (ps_ret (pe_lst (pa_cons (pv 2) (pa_cons pe_int (pa_cons pe_int (pa_cons pe_int pa_nil)))))))), ?_⟩
    -- script[:17]
    refine ⟨_, rfl, 17, rfl, a, _, rfl, hS, fun c nc => ?_⟩
    obtain ⟨ms, em, el⟩ := cut_ints ns none (some 17)
    have s1 : Same H (upd H c (.lst (cutV (ns.map V.int) none (some 17)))) := same_new nc
    refine ⟨c, rfl, ⟨_, SqL.of upd_same⟩, fun D nD => ?_⟩
    have ncD : D ≠ c := fun e => by
      rw [e, upd_same] at nD
      cases nD
    have nD0 : H D = none := s1.free nD
    refine lc_list (K := K) (a := c) (xs := cutV (ns.map V.int) none (some 17)) (fun i H' => Same H H' ∧ H' c = some (.lst (cutV (ns.map V.int) none (some 17))) ∧ ∃ ks : List Int, H' D = some (.lst (ks.map V.int)) ∧ ks.length = i ∧ ∀ z ∈ ks, 0 ≤ z)
      ⟨s1.trans (same_new nD), by rw [upd_ne ncD.symm]; exact upd_same, [], upd_same, rfl, fun _ z => nomatch z⟩ (fun i H' _ p => SqL.of p.2.1) ?_ ?_
    · rintro i x H' hx ⟨sm, hc, ks, hD, hk, nn⟩
      rw [em] at hx
      obtain ⟨z, hz, rfl⟩ := get_int hx
      refine ⟨rfl, ?_⟩
      refine tyes ?_
      refine ⟨_, rfl, _, rfl, _, hD, ?_, ?_⟩
      · have h1 : i < ms.length := (List.getElem?_eq_some_iff.mp hz).1
        rw [el, cut_first] at h1
        rw [List.length_map]
        exact small1000 (by omega)
      · refine ⟨fun b o e => ?_, ?_, ks ++ [if z < 0 then -z else z], ?_, ?_, ?_⟩
        · rw [upd_ne (ne_of_none e nD0)]
          exact sm _ _ e
        · rw [upd_ne ncD.symm]
          exact hc
        · rw [upd_same, List.map_append]
          rfl
        · rw [List.length_append, hk]
          rfl
        · intro y hy
          rcases List.mem_append.mp hy with hy | hy
          · exact nn y hy
          · rw [List.mem_singleton.mp hy]
            exact abs_nn z
    · rintro H' ⟨sm, hc, ks, hD, hk, nn⟩
      -- enumerate(script[17:60])
      refine ⟨_, rfl, 17, rfl, 60, rfl, a, _, rfl, sm.seq hS, fun e ne => ?_⟩
      obtain ⟨rs, er, elr⟩ := cut_ints ns (some 17) (some 60)
      have s2 : Same H' (upd H' e (.lst (cutV (ns.map V.int) (some 17) (some 60)))) := same_new ne
      have neD : D ≠ e := ne_of_none hD ne
      have ne0 : H e = none := sm.free ne
      have hE : SqL K (upd H' e (.lst (cutV (ns.map V.int) (some 17) (some 60)))) e (rs.map V.int) := SqL.of (by rw [upd_same, er])
      refine ⟨e, _, rfl, hE, ?_⟩
      refine ⟨fun i m σ H3 => ∃ y1 y3, σ = [some (.ref a), y1, some (.ref D), y3] ∧ i + m = rs.length ∧ Same H H3 ∧ H3 e = some (.lst (rs.map V.int)) ∧ ∃ ks : List Int, H3 D = some (.lst (ks.map V.int)) ∧ ks.length = min 17 ns.length ∧ ∀ z ∈ ks, 0 ≤ z,
        ⟨rs.length, none, none, rfl, by omega, sm.trans s2, by rw [upd_same, er], ks, s2 _ _ hD, by rw [hk, cut_first, List.length_map], nn⟩, fun i m σ H3 hW => ?_⟩
      obtain ⟨y1, y3, rfl, eim, sm3, h3e, ks, hD3, hk3, nn3⟩ := hW
      by_cases hi : i < rs.length
      · have hx : (rs.map V.int)[i]? = some (.int rs[i]) := by
          rw [List.getElem?_map, List.getElem?_eq_getElem hi]
          rfl
        have h17 : ks.length = 17 := by
          have := cut_then (ns.map V.int) (by omega)
          rw [List.length_map] at this
          omega
        refine .inr ⟨⟨_, _, SqL.of h3e, hx⟩, fun σ' H5 => ∃ y1 y3, σ' = [some (.ref a), y1, some (.ref D), y3] ∧ Same H H5 ∧ H5 e = some (.lst (rs.map V.int)) ∧ ∃ ks : List Int, H5 D = some (.lst (ks.map V.int)) ∧ ks.length = min 17 ns.length ∧ ∀ z ∈ ks, 0 ≤ z, fun σ' H5 hN => ?_, fun x H5 hy => ?_⟩
        · obtain ⟨z1, z3, e1, sm5, h5e, ks5, hD5, hk5, nn5⟩ := hN
          exact ⟨m - 1, by omega, z1, z3, e1, by omega, sm5, h5e, ks5, hD5, hk5, nn5⟩
        · obtain ⟨T, x1, rfl, nT, rfl, f1⟩ := hy
          have ex1 : x1 = .int rs[i] := Option.some.inj ((f1 _ (SqL.of h3e)).symm.trans hx)
          subst ex1
          refine ⟨T, [.int (i : Nat), .int rs[i]], rfl, .inl (.inl upd_same), rfl, .int (i : Nat), [.int rs[i]], rfl, .int rs[i], [], rfl, rfl, ?_⟩
          have sT : Same H3 (upd H3 T (.tup [.int (i : Nat), .int rs[i]])) := same_new nT
          have hD5 := sT _ _ hD3
          have h5e := sT _ _ h3e
          have sm5 := sm3.trans sT
          generalize upd H3 T (.tup [.int (i : Nat), .int rs[i]]) = H5 at hD5 h5e sm5 ⊢
          have e17 : (((ks.map V.int).length : Nat) : Int) = 17 := by
            rw [List.length_map, h17]
            rfl
          obtain ⟨z, hz, hat⟩ := ints_at (ns := ks) (fun q => by rw [q] at h17; cases h17) ((i : Nat) : Int)
          rw [e17] at hat
          obtain ⟨j, hj, _⟩ := at_ix hat
          refine ⟨_, rfl, _, rfl, _, _, rfl, rfl, (by show (17 : Int) ≠ 0; decide), D, _, _, _, rfl, rfl, SqL.of hD5, hat, _, rfl, _, rfl, _, _, rfl, rfl, _, rfl, _, rfl, _, _, rfl, rfl, (by show (17 : Int) ≠ 0; decide), D, _, _, j, rfl, rfl, hD5, hj, ?_⟩
          refine ⟨_, _, rfl, fun b o e => ?_, ?_, ks.set j (z + if rs[i] < 0 then -rs[i] else rs[i]), ?_, by rw [List.length_set]; exact hk3, ?_⟩
          · rw [upd_ne (ne_of_none e nD0)]
            exact sm5 _ _ e
          · rw [upd_ne neD.symm]
            exact h5e
          · rw [upd_same, List.map_set]
          · intro y hy
            rcases List.mem_or_eq_of_mem_set hy with hy | hy
            · exact nn3 y hy
            · rw [hy]
              exact Int.add_nonneg (nn3 z hz) (abs_nn _)
      · refine .inl ⟨⟨_, SqL.of h3e, ?_⟩, ?_⟩
        · rw [List.length_map]
          omega
        · refine ⟨_, rfl, Nat.le_trans (by decide : 4 ≤ 1000) (by decide), fun p np => ?_⟩
          have npD : D ≠ p := ne_of_none hD3 np
          refine q _ p D (sm3.trans (same_new np)) (sm3.free np) nD0 ⟨ks, 0, 0, 0, ⟨upd_same, by rw [upd_ne npD]; exact hD3, npD, nn3, by omega, Int.le_refl _, Int.le_refl _⟩, Int.le_refl _⟩
end
end Cut
set_option Elab.async false
set_option linter.all false
set_option maxRecDepth 100000
set_option maxHeartbeats 8000000
namespace Cut
open PySem PySem.Spec PyProof.Rows L2
theorem seqT {K : PySem.W.Frag} {H H' : Hp} {a : Addr} {xs : List V} (e : Same H H') (h : SqT K H a xs) : SqT K H' a xs := by
  rcases h with (h | ⟨o, h⟩) | h
  · exact .inl (.inl (e _ _ h))
  · exact .inl (.inr ⟨o, e _ _ h⟩)
  · exact .inr h
/-! ### questions -/
/-- an atom's table and its parts: names and integers -/
abbrev Atm := Str × List Key
def AtAt (K : PySem.W.Frag) (H : Hp) (v : V) (t : Atm) : Prop := ∃ a p, v = .ref a ∧ SqT K H a [.str t.1, .ref p] ∧ SqT K H p (t.2.map kV)
def AtsAt (K : PySem.W.Frag) (H : Hp) (vs : List V) (ats : List Atm) : Prop := Paired (AtAt K H) vs ats
/-- at q a question with such a head and such atoms -/
def QAt (K : PySem.W.Frag) (H : Hp) (q : Addr) (head : List Str) (ats : List Atm) : Prop := ∃ h s vs, SqT K H q [.ref h, .ref s] ∧ SqT K H h (head.map V.str) ∧ SqT K H s vs ∧ AtsAt K H vs ats
theorem AtAt.same {K : PySem.W.Frag} {H H' : Hp} {v : V} {t : Atm} (x : AtAt K H v t) (e : Same H H') : AtAt K H' v t :=
  let ⟨a, p, h1, h2, h3⟩ := x; ⟨a, p, h1, seqT e h2, seqT e h3⟩
theorem paired_mono {α β : Type} {F G : α → β → Prop} (h : ∀ a b, F a b → G a b) : ∀ {xs : List α} {ys : List β}, Paired F xs ys → Paired G xs ys
  | _, _, .nil => .nil
  | _, _, .cons a r => .cons (h _ _ a) (paired_mono h r)
theorem AtsAt.same {K : PySem.W.Frag} {H H' : Hp} {vs : List V} {ats : List Atm} (x : AtsAt K H vs ats) (e : Same H H') : AtsAt K H' vs ats := paired_mono (fun _ _ y => AtAt.same y e) x
theorem QAt.same {K : PySem.W.Frag} {H H' : Hp} {q : Addr} {head : List Str} {ats : List Atm} (x : QAt K H q head ats) (e : Same H H') : QAt K H' q head ats :=
  let ⟨h, s, vs, h1, h2, h3, h4⟩ := x; ⟨h, s, vs, seqT e h1, seqT e h2, seqT e h3, h4.same e⟩
theorem paired_get {α β : Type} {F : α → β → Prop} : ∀ {xs : List α} {ys : List β}, Paired F xs ys → ∀ {i : Nat} {x : α}, xs[i]? = some x → ∃ y, ys[i]? = some y ∧ F x y
  | _, _, .nil, i, x, h => by simp at h
  | _, _, .cons a r, 0, x, h => by
    rw [List.getElem?_cons_zero] at h
    cases h
    exact ⟨_, List.getElem?_cons_zero, a⟩
  | _, _, .cons a r, i + 1, x, h => by
    rw [List.getElem?_cons_succ] at h
    obtain ⟨y, hy, f⟩ := paired_get r h
    exact ⟨y, by rw [List.getElem?_cons_succ]; exact hy, f⟩
theorem paired_len {α β : Type} {F : α → β → Prop} : ∀ {xs : List α} {ys : List β}, Paired F xs ys → xs.length = ys.length
  | _, _, .nil => rfl
  | _, _, .cons _ r => congrArg (· + 1) (paired_len r)
/-- the names among parts -/
def ptx (ps : List Key) : List Str := ps.filterMap txt
def aNames (ats : List Atm) : List Str := ats.flatMap fun t => ptx t.2
theorem ptx_len (ps : List Key) : (ptx ps).length ≤ ps.length := List.length_filterMap_le _ _
theorem ptx_take {ps : List Key} {i : Nat} {k : Key} (h : ps[i]? = some k) : ptx (ps.take (i + 1)) = ptx (ps.take i) ++ (txt k).toList := by
  unfold ptx
  rw [List.take_add_one, h, List.filterMap_append]
  cases k <;> rfl
theorem get_key {ks : List Key} {i : Nat} {x : V} (h : (ks.map kV)[i]? = some x) : ∃ k, ks[i]? = some k ∧ x = kV k := by
  rw [List.getElem?_map] at h
  cases e : ks[i]? with
  | none => rw [e] at h; cases h
  | some z => rw [e] at h; exact ⟨z, rfl, (Option.some.inj h).symm⟩
/-- whether a part is a name -/
def isN : Key → Bool
  | .inl _ => false
  | .inr _ => true
def tyK : Key → String
  | .inl _ => "int"
  | .inr _ => "str"
theorem tyX_key {K : PySem.W.Frag} {H : Hp} (k : Key) : TyX K H (kV k) (.type (tyK k)) := by
  cases k with
  | inl i => exact .base (.int i)
  | inr x => exact .base (.str x)
theorem kit_key {K : PySem.W.Frag} (k : Key) : PySem.W.kitOne K (.type (tyK k)) (.type "str") = some (isN k) := by
  cases k with
  | inl i => exact kit_ty (show kitB "int" "str" = some false by decide +kernel)
  | inr x => exact kit_ty (show kitB "str" "str" = some true by decide +kernel)
theorem scPartNames : FnScope ["parts", "part"] ["parts"] (defScope sPartNames) := ⟨rfl, rfl, rfl, by decide +kernel, rfl, by decide +kernel, by decide +kernel⟩
section
variable {P : Program} {w : World} {K : PySem.W.Frag} {mg : Str → Option Value} {base : Heap}
def spPartNames (K : PySem.W.Frag) : Sp := fun vs H Q _ => ∃ (p : Addr) (ps : List Key), vs = [.ref p] ∧ SqT K H p (ps.map kV) ∧ ps.length ≤ 900 ∧ ∀ (H' : Hp) (l : Addr), Same H H' → H l = none → H' l = some (.lst ((ptx ps).map V.str)) → Q (.ref l) H'
theorem ok_partNames {f : Addr} {fd : FuncData} (F : Fun K "part_names" "part_names" sPartNames f fd) (B : Blt mg) : FnOk P w K mg base CX0 1 f fd ["parts"] (spPartNames K) := by
  refine F.ok scPartNames (fun vs H Q E h => ?_) (fun cdv A outer s H vs Q E hr h => ?_)
  · obtain ⟨p, ps, rfl, _⟩ := h
    rfl
  · obtain ⟨p, ps, rfl, hp, few, q⟩ := h
    refine ⟨_, pss_one (ps_ret (pe_lc (own := [("part", 1)]) (g := gName 1) (by rfl) scPartNames.nd (pi_tup (pv 0)) (blkOk_by (own := [("part", 1)]) (N := ["parts", "part"]) (sc := defScope sPartNames) (by decide +kernel))
      (fun _ _ _ _ _ => pg_name (i := 1) scPartNames.nd rfl (Or.inl rfl))
      (fun _ _ _ _ _ => pts_one (pt_val (pe_callB (id := "isinstance") (r := rIsi K) call_isi (by rfl) B.isi (by decide +kernel) (pa_cons (pv 1) (pa_cons (pe_bltn (v := .ty "str") (by rfl) B.str (by decide +kernel) rfl) pa_nil)))))
      (fun _ _ _ _ _ => pv 1))), ?_⟩
    refine ⟨_, rfl, p, rfl, ⟨_, hp⟩, fun D nD => ?_⟩
    refine lc_tup (K := K) (a := p) (xs := ps.map kV) (fun i H' => Same H H' ∧ H' D = some (.lst ((ptx (ps.take i)).map V.str))) ⟨same_new nD, upd_same⟩ (fun i H' _ h => seqT h.1 hp) ?_ ?_
    · rintro i x H' hx ⟨sm, hD⟩
      obtain ⟨k, hk, rfl⟩ := get_key hx
      refine ⟨rfl, ?_⟩
      refine ⟨_, rfl, _, _, _, _, isN k, rfl, .ty "str", tyX_key k, kit_key k, _, rfl, ?_⟩
      have hn := ptx_take hk
      have small : ((ptx (ps.take i)).map V.str).length < sizeLine := by
        have h1 := ptx_len (ps.take i)
        rw [List.length_take] at h1
        rw [List.length_map]
        exact small1000 (by omega)
      cases k with
      | inl j =>
        refine iteF ⟨sm, ?_⟩
        rw [hn]
        simpa [txt] using hD
      | inr x =>
        refine iteT ⟨_, rfl, _, hD, small, fun b o e => ?_, ?_⟩
        · rw [upd_ne (ne_of_none e nD)]
          exact sm _ _ e
        · rw [upd_same, hn, List.map_append]
          rfl
    · rintro H' ⟨sm, hD⟩
      refine q H' D sm nD ?_
      rw [hD, List.take_of_length_le (by rw [List.length_map]; exact Nat.le_refl _)]
end
end Cut
set_option Elab.async false
set_option linter.all false
set_option maxRecDepth 100000
set_option maxHeartbeats 8000000
namespace Cut
open PySem PySem.Spec PyProof.Rows L2
/-! ### walks whose turns do what they like -/
theorem walk_tup {K : PySem.W.Frag} {a : Addr} {xs : List V} {H0 : Hp} {Done : Hp → Prop} {Body : Nat → V → Hp → (Hp → Prop) → Prop} (Pv : Nat → Hp → Prop) (h0 : Pv 0 H0) (hl : ∀ i H, i ≤ xs.length → Pv i H → SqT K H a xs)
    (turn : ∀ i x H, xs[i]? = some x → Pv i H → Body i x H (Pv (i + 1))) (fin : ∀ H, Pv xs.length H → Done H) :
    ∃ W : Nat → Nat → Hp → Prop, (∃ m, W 0 m H0) ∧ ∀ i m H, W i m H →
      ((Itt K a).stop i H ∧ Done H) ∨ ((Itt K a).go i H ∧ ∃ Nx : Hp → Prop, (∀ H', Nx H' → ∃ m', m' < m ∧ W (i + 1) m' H') ∧ ∀ x H', (Itt K a).yld i H x H' → Body i x H' Nx) := by
  refine ⟨fun i m H => m + i = xs.length ∧ Pv i H, ⟨xs.length, rfl, h0⟩, fun i m H h => ?_⟩
  obtain ⟨em, p⟩ := h
  have at_ := hl i H (by omega) p
  by_cases lt : i < xs.length
  · refine .inr ⟨⟨xs, xs[i], at_, List.getElem?_eq_getElem lt⟩, Pv (i + 1), fun H' p' => ⟨m - 1, by omega, by omega, p'⟩, fun x H' y => ?_⟩
    obtain ⟨rfl, y⟩ := y
    exact turn i x _ (y xs at_) p
  · have e : i = xs.length := by omega
    subst e
    exact .inl ⟨⟨xs, at_, Nat.le_refl _⟩, fin H p⟩
theorem walk_list {K : PySem.W.Frag} {a : Addr} {xs : List V} {H0 : Hp} {Done : Hp → Prop} {Body : Nat → V → Hp → (Hp → Prop) → Prop} (Pv : Nat → Hp → Prop) (h0 : Pv 0 H0) (hl : ∀ i H, i ≤ xs.length → Pv i H → SqL K H a xs)
    (turn : ∀ i x H, xs[i]? = some x → Pv i H → Body i x H (Pv (i + 1))) (fin : ∀ H, Pv xs.length H → Done H) :
    ∃ W : Nat → Nat → Hp → Prop, (∃ m, W 0 m H0) ∧ ∀ i m H, W i m H →
      ((Itl K a).stop i H ∧ Done H) ∨ ((Itl K a).go i H ∧ ∃ Nx : Hp → Prop, (∀ H', Nx H' → ∃ m', m' < m ∧ W (i + 1) m' H') ∧ ∀ x H', (Itl K a).yld i H x H' → Body i x H' Nx) := by
  refine ⟨fun i m H => m + i = xs.length ∧ Pv i H, ⟨xs.length, rfl, h0⟩, fun i m H h => ?_⟩
  obtain ⟨em, p⟩ := h
  have at_ := hl i H (by omega) p
  by_cases lt : i < xs.length
  · refine .inr ⟨⟨xs, xs[i], at_, List.getElem?_eq_getElem lt⟩, Pv (i + 1), fun H' p' => ⟨m - 1, by omega, by omega, p'⟩, fun x H' y => ?_⟩
    obtain ⟨rfl, y⟩ := y
    exact turn i x _ (y xs at_) p
  · have e : i = xs.length := by omega
    subst e
    exact .inl ⟨⟨xs, at_, Nat.le_refl _⟩, fin H p⟩
theorem gathered_strs {xs : List Str} : ∀ k ∈ gathered (xs.map .inr), ∃ x, k = .inr x := fun k h => by
  obtain ⟨x, _, rfl⟩ := List.mem_map.mp (mem_gathered.mp h)
  exact ⟨x, rfl⟩
theorem namesT_eq (xs : List Str) : sortT ((gathered (xs.map .inr)).filterMap txt) = namesT xs := rfl
theorem aNames_take {ats : List Atm} {i : Nat} {t : Atm} (h : ats[i]? = some t) : aNames (ats.take (i + 1)) = aNames (ats.take i) ++ ptx t.2 := by
  unfold aNames
  rw [List.take_add_one, h, List.flatMap_append]
  simp
theorem aNames_len : ∀ (ats : List Atm) (n : Nat), (∀ t ∈ ats, t.2.length ≤ n) → (aNames ats).length ≤ n * ats.length
  | [], n, _ => by simp [aNames]
  | t :: r, n, h => by
    have h1 := aNames_len r n fun u hu => h u (List.mem_cons_of_mem _ hu)
    have h2 := h t List.mem_cons_self
    have h3 := ptx_len t.2
    have e : aNames (t :: r) = ptx t.2 ++ aNames r := rfl
    rw [e, List.length_append, List.length_cons, Nat.mul_add]
    omega
/-- few atoms of few parts -/
structure Few (ats : List Atm) : Prop where
  many : ats.length ≤ 6
  parts : ∀ t ∈ ats, t.2.length ≤ 6
theorem Few.names {ats : List Atm} (h : Few ats) (i : Nat) : (aNames (ats.take i)).length ≤ 36 := by
  have h1 := aNames_len (ats.take i) 6 fun t ht => h.parts t (List.mem_of_mem_take ht)
  have h2 := h.many
  rw [List.length_take] at h1
  omega
end Cut
set_option Elab.async false
set_option linter.all false
set_option maxRecDepth 100000
set_option maxHeartbeats 8000000
namespace Cut
open PySem PySem.Spec PyProof.Rows L2
/-- for x in t: .., t a tuple -/
theorem for_tup {K : PySem.W.Frag} {a : Addr} {xs : List V} {σ0 : L2.St} {H0 : Hp} {Done : L2.St → Hp → Prop} {Body : Nat → V → L2.St → Hp → (L2.St → Hp → Prop) → Prop} (Pv : Nat → L2.St → Hp → Prop) (h0 : Pv 0 σ0 H0) (hl : ∀ i σ H, i ≤ xs.length → Pv i σ H → SqT K H a xs)
    (turn : ∀ i x σ H, xs[i]? = some x → Pv i σ H → Body i x σ H (Pv (i + 1))) (fin : ∀ σ H, Pv xs.length σ H → Done σ H) :
    ∃ W : Nat → Nat → L2.St → Hp → Prop, (∃ m, W 0 m σ0 H0) ∧ ∀ i m σ H, W i m σ H →
      ((Itt K a).stop i H ∧ Done σ H) ∨ ((Itt K a).go i H ∧ ∃ Nx : L2.St → Hp → Prop, (∀ σ' H', Nx σ' H' → ∃ m', m' < m ∧ W (i + 1) m' σ' H') ∧ ∀ x H', (Itt K a).yld i H x H' → Body i x σ H' Nx) := by
  refine ⟨fun i m σ H => m + i = xs.length ∧ Pv i σ H, ⟨xs.length, rfl, h0⟩, fun i m σ H h => ?_⟩
  obtain ⟨em, p⟩ := h
  have at_ := hl i σ H (by omega) p
  by_cases lt : i < xs.length
  · refine .inr ⟨⟨xs, xs[i], at_, List.getElem?_eq_getElem lt⟩, Pv (i + 1), fun σ' H' p' => ⟨m - 1, by omega, by omega, p'⟩, fun x H' y => ?_⟩
    obtain ⟨rfl, y⟩ := y
    exact turn i x σ _ (y xs at_) p
  · have e : i = xs.length := by omega
    subst e
    exact .inl ⟨⟨xs, at_, Nat.le_refl _⟩, fin σ H p⟩
abbrev NI : List Str := ["question", "found", "table", "parts", "part"]
theorem scNamesIn : FnScope NI ["question"] (defScope sNamesIn) := ⟨rfl, rfl, rfl, by decide +kernel, rfl, by decide +kernel, by decide +kernel⟩
theorem txt_kV (xs : List Str) : (xs.map (Sum.inr (α := Int))).map kV = xs.map V.str := by
  rw [List.map_map]
  rfl
section
variable {P : Program} {w : World} {K : PySem.W.Frag} {mg : Str → Option Value} {base : Heap}
def spNamesIn (K : PySem.W.Frag) : Sp := fun vs H Q _ => ∃ (q : Addr) (head : List Str) (ats : List Atm), vs = [.ref q] ∧ QAt K H q head ats ∧ Few ats ∧ ∀ (H' : Hp) (l : Addr), Same H H' → H l = none → H' l = some (.lst ((namesT (aNames ats)).map V.str)) → Q (.ref l) H'
theorem ok_namesIn {f : Addr} {fd : FuncData} (F : Fun K "_law_names_in" "_law_names_in" sNamesIn f fd) (B : Blt mg) : FnOk P w K mg base CX0 1 f fd ["question"] (spNamesIn K) := by
  refine F.ok scNamesIn (fun vs H Q E h => ?_) (fun cdv A outer s H vs Q E hr h => ?_)
  · obtain ⟨q, head, ats, rfl, _⟩ := h
    rfl
  · obtain ⟨q, head, ats, rfl, hq, few, fin⟩ := h
    obtain ⟨hd, sa, vs, hq1, hq2, hq3, hq4⟩ := hq
    have len4 := paired_len hq4
    have hu : (cxOf CX0 P w K mg base NI "_law_names_in" (defScope sNamesIn) f cdv A outer s H E).nox.A.units + 64 < cLine := by
      have := hr.un
      show (A.deeper _).units + 64 < cLine
      omega
    refine ⟨_, pss_cons (ps_set (i := 1) scNamesIn.nd rfl (.inl rfl) (pe_lst pa_nil))
      (pss_cons (ps_for PassesOwn.never rfl (pi_tup (pe_ix ix_tup (pv 0) pe_int (fun _ _ => rfl))) (pg_tup (by rfl) (pgs_cons (pg_name (i := 2) scNamesIn.nd rfl (.inl rfl)) (pgs_cons (pg_name (i := 3) scNamesIn.nd rfl (.inl rfl)) pgs_nil)))
        (pss_one (ps_set (i := 1) scNamesIn.nd rfl (.inl rfl) (pe_op op_cat (pv 1) (pe_lc (own := [("part", 4)]) (g := gName 4) (by rfl) scNamesIn.nd (pi_tup (pv 3)) (blkOk_by (own := [("part", 4)]) (N := NI) (sc := defScope sNamesIn) (by decide +kernel))
          (fun _ _ _ _ _ => pg_name (i := 4) scNamesIn.nd rfl (Or.inl rfl))
          (fun _ _ _ _ _ => pts_one (pt_val (pe_callB (id := "isinstance") (r := rIsi K) call_isi (by rfl) B.isi (by decide +kernel) (pa_cons (pv 4) (pa_cons (pe_bltn (v := .ty "str") (by rfl) B.str (by decide +kernel) rfl) pa_nil)))))
          (fun _ _ _ _ _ => pv 4))))))
      (pss_one (ps_ret (pe_callB (id := "sorted") (r := rSortedM P w) (cr_sortedM (by rfl) hu) (by rfl) B.sorted (by decide +kernel) (pa_cons
        (pe_callTy (T := "set") (r := rSetOfK K P w) (cr_setOfK (by rfl)) (by rfl) B.set (by decide +kernel) (pa_cons (pv 1) pa_nil)) pa_nil))))), ?_⟩
    refine ⟨Nat.zero_le _, fun a na => ?_⟩
    refine ⟨_, rfl, q, _, 1, .ref sa, rfl, rfl, seqT (same_new na) hq1, rfl, sa, rfl, ⟨_, seqT (same_new na) hq3⟩, ?_⟩
    refine for_tup (xs := vs) (fun i σ H' => ∃ y2 y3 b, σ = [some (.ref q), some (.ref b), y2, y3, none] ∧ Same H H' ∧ H' b = some (.lst ((aNames (ats.take i)).map V.str))) ⟨none, none, a, rfl, same_new na, upd_same⟩ (fun i σ H' _ h => by obtain ⟨_, _, _, _, sm, _⟩ := h; exact seqT sm hq3) ?_ ?_
    · rintro i x σ H' hx ⟨y2, y3, b, rfl, sm, hb⟩
      obtain ⟨t, ht, c, p, rfl, h1, h2⟩ := paired_get hq4 hx
      have fp := few.parts t (List.mem_of_getElem? ht)
      have hn := aNames_take ht
      refine ⟨c, [.str t.1, .ref p], rfl, seqT sm h1, rfl, .str t.1, [.ref p], rfl, .ref p, [], rfl, rfl, ?_⟩
      refine ⟨_, rfl, _, rfl, p, rfl, ⟨_, seqT sm h2⟩, fun D nD => ?_⟩
      refine walk_tup (xs := t.2.map kV) (fun j H7 => Same H' H7 ∧ H7 D = some (.lst ((ptx (t.2.take j)).map V.str))) ⟨same_new nD, upd_same⟩ (fun j H7 _ h => seqT h.1 (seqT sm h2)) ?_ ?_
      · rintro j y H7 hy ⟨sm7, hD⟩
        obtain ⟨k, hk, rfl⟩ := get_key hy
        refine ⟨rfl, ?_⟩
        refine ⟨_, rfl, _, _, _, _, isN k, rfl, .ty "str", tyX_key k, kit_key k, _, rfl, ?_⟩
        have hn := ptx_take hk
        have small : ((ptx (t.2.take j)).map V.str).length < sizeLine := by
          have h1 := ptx_len (t.2.take j)
          rw [List.length_take] at h1
          rw [List.length_map]
          exact small1000 (by omega)
        cases k with
        | inl z =>
          refine iteF ⟨sm7, ?_⟩
          rw [hn]
          simpa [txt] using hD
        | inr x =>
          refine iteT ⟨_, rfl, _, hD, small, fun b o e => ?_, ?_⟩
          · rw [upd_ne (ne_of_none e nD)]
            exact sm7 _ _ e
          · rw [upd_same, hn, List.map_append]
            rfl
      · rintro H7 ⟨sm7, hD⟩
        rw [List.length_map, List.take_length] at hD
        have g2 := few.names (i + 1)
        rw [hn, List.length_append] at g2
        refine ⟨b, D, _, _, rfl, rfl, sm7 _ _ hb, hD, ?_, fun r nr => ⟨_, _, r, rfl, (sm.trans sm7).trans (same_new nr), ?_⟩⟩
        · rw [List.length_map, List.length_map]
          exact Nat.le_of_lt (small1000 (by omega))
        · rw [upd_same, hn, List.map_append]
    · rintro σ H' ⟨y2, y3, b, rfl, sm, hb⟩
      rw [len4, List.take_length] at hb
      have g2 := few.names ats.length
      rw [List.take_length] at g2
      refine ⟨_, rfl, b, (aNames ats).map .inr, rfl, SqL.of (by rw [txt_kV]; exact hb), ?_, fun r nr => ?_⟩
      · rw [List.length_map]
        unfold scanBound
        omega
      · refine ⟨r, _, rfl, upd_same, gathered_strs, ?_, fun l nl => ?_⟩
        · have g1 := len_gathered ((aNames ats).map Sum.inr)
          rw [List.length_map] at g1
          omega
        · rw [namesT_eq]
          have sm2 := sm.trans (same_new (o := SetMO P w r (gathered ((aNames ats).map .inr))) nr)
          exact fin _ l (sm2.trans (same_new nl)) (sm2.free nl) upd_same
end
end Cut
set_option Elab.async false
set_option linter.all false
set_option maxRecDepth 100000
set_option maxHeartbeats 8000000
namespace Cut
open PySem PySem.Spec PyProof.Rows L2
/-- over the signs of a text -/
theorem walk_str {z : Str} {H0 : Hp} {Done : Hp → Prop} {Body : Nat → V → Hp → (Hp → Prop) → Prop} (Pv : Nat → Hp → Prop) (h0 : Pv 0 H0)
    (turn : ∀ i c H, z.cps[i]? = some c → Pv i H → Body i (.str ⟨#[c]⟩) H (Pv (i + 1))) (fin : ∀ H, Pv z.cps.size H → Done H) :
    ∃ W : Nat → Nat → Hp → Prop, (∃ m, W 0 m H0) ∧ ∀ i m H, W i m H →
      ((Its z).stop i H ∧ Done H) ∨ ((Its z).go i H ∧ ∃ Nx : Hp → Prop, (∀ H', Nx H' → ∃ m', m' < m ∧ W (i + 1) m' H') ∧ ∀ x H', (Its z).yld i H x H' → Body i x H' Nx) := by
  refine ⟨fun i m H => m + i = z.cps.size ∧ Pv i H, ⟨z.cps.size, rfl, h0⟩, fun i m H h => ?_⟩
  obtain ⟨em, p⟩ := h
  by_cases lt : i < z.cps.size
  · refine .inr ⟨lt, Pv (i + 1), fun H' p' => ⟨m - 1, by omega, by omega, p'⟩, fun x H' y => ?_⟩
    obtain ⟨rfl, c, hc, rfl⟩ := y
    exact turn i c _ hc p
  · have e : i = z.cps.size := by omega
    subst e
    exact .inl ⟨Nat.le_refl _, fin H p⟩
/-- for x in l: .., l a list -/
theorem for_lst {K : PySem.W.Frag} {a : Addr} {xs : List V} {σ0 : L2.St} {H0 : Hp} {Done : L2.St → Hp → Prop} {Body : Nat → V → L2.St → Hp → (L2.St → Hp → Prop) → Prop} (Pv : Nat → L2.St → Hp → Prop) (h0 : Pv 0 σ0 H0) (hl : ∀ i σ H, i ≤ xs.length → Pv i σ H → SqL K H a xs)
    (turn : ∀ i x σ H, xs[i]? = some x → Pv i σ H → Body i x σ H (Pv (i + 1))) (fin : ∀ σ H, Pv xs.length σ H → Done σ H) :
    ∃ W : Nat → Nat → L2.St → Hp → Prop, (∃ m, W 0 m σ0 H0) ∧ ∀ i m σ H, W i m σ H →
      ((Itl K a).stop i H ∧ Done σ H) ∨ ((Itl K a).go i H ∧ ∃ Nx : L2.St → Hp → Prop, (∀ σ' H', Nx σ' H' → ∃ m', m' < m ∧ W (i + 1) m' σ' H') ∧ ∀ x H', (Itl K a).yld i H x H' → Body i x σ H' Nx) := by
  refine ⟨fun i m σ H => m + i = xs.length ∧ Pv i σ H, ⟨xs.length, rfl, h0⟩, fun i m σ H h => ?_⟩
  obtain ⟨em, p⟩ := h
  have at_ := hl i σ H (by omega) p
  by_cases lt : i < xs.length
  · refine .inr ⟨⟨xs, xs[i], at_, List.getElem?_eq_getElem lt⟩, Pv (i + 1), fun σ' H' p' => ⟨m - 1, by omega, by omega, p'⟩, fun x H' y => ?_⟩
    obtain ⟨rfl, y⟩ := y
    exact turn i x σ _ (y xs at_) p
  · have e : i = xs.length := by omega
    subst e
    exact .inl ⟨⟨xs, at_, Nat.le_refl _⟩, fin σ H p⟩
abbrev NS : List Str := ["texts", "found", "text", "sign", "atom"]
theorem scShapes : FnScope NS [] (defScope sShapes) := ⟨rfl, rfl, rfl, by decide +kernel, rfl, by decide +kernel, by decide +kernel⟩
def T1 : List Str := ["x xy y", "xy yz zw", "xy yz zx", "x y xy", "xy yz z y", "xy xz xw", "x xy z zw", "x y z xyz", "xyz x"]
def T2 : List Str := ["x", "- xx", "xy yx", "xy yz zw wx", "xy y yz zu u", "x x xy y", "xv vy vz x z", "x xyz yu zu u"]
def T3 : List Str := ["x xy y yz z zu", "xy yz zu x z u", "- - x", "- -", "w xy yz zx", "xy yz zx w", "w wu xy yz zx"]
def LT : List Str := ["w", "x", "y", "z", "u", "v"]
/-- the letters of an atom's text -/
def lts (z : Str) : List Str := (z.cps.toList.map fun c => (⟨#[c]⟩ : Str)).filter fun x => !decide (x = "-")
def okText (t : Str) : Bool := decide (t.length + 2 ≤ 40) && decide (1 ≤ (Txt.split t " ").length) && decide ((Txt.split t " ").length ≤ 6) && (Txt.split t " ").all fun z => decide ((lts z).length ≤ 3) && ((lts z).all fun x => decide (x ∈ LT)) && decide (z.cps.size ≤ 10)
theorem okTexts : (T1 ++ T2 ++ T3).all okText = true := by decide +kernel
/-- at u the letters of an atom; what stands there is younger than G -/
def LtsAt (G H : Hp) (u : V) : Prop := ∃ b ls, u = .ref b ∧ G b = none ∧ H b = some (.lst ((ls : List Str).map V.str)) ∧ ls.length ≤ 3 ∧ ∀ x ∈ ls, x ∈ LT
def ShpAt (G H : Hp) (v : V) : Prop := ∃ a us, v = .ref a ∧ G a = none ∧ H a = some (.lst us) ∧ 1 ≤ us.length ∧ us.length ≤ 6 ∧ ∀ u ∈ us, LtsAt G H u
theorem LtsAt.same {G H H' : Hp} {u : V} (x : LtsAt G H u) (e : Same H H') : LtsAt G H' u := let ⟨b, ls, h1, h0, h2, h3⟩ := x; ⟨b, ls, h1, h0, e _ _ h2, h3⟩
theorem ShpAt.same {G H H' : Hp} {u : V} (x : ShpAt G H u) (e : Same H H') : ShpAt G H' u := let ⟨a, us, h1, h0, h2, h3, h4, h5⟩ := x; ⟨a, us, h1, h0, e _ _ h2, h3, h4, fun u hu => (h5 u hu).same e⟩
theorem LtsAt.old {G G' H : Hp} {u : V} (x : LtsAt G H u) (e : Same G' G) : LtsAt G' H u := let ⟨b, ls, h1, h0, h2, h3⟩ := x; ⟨b, ls, h1, e.free h0, h2, h3⟩
theorem ShpAt.old {G G' H : Hp} {u : V} (x : ShpAt G H u) (e : Same G' G) : ShpAt G' H u := let ⟨a, us, h1, h0, h2, h3, h4, h5⟩ := x; ⟨a, us, h1, e.free h0, h2, h3, h4, fun u hu => (h5 u hu).old e⟩
theorem LtsAt.put {G H : Hp} {u : V} {D : Addr} {o o' : HO} (x : LtsAt G H u) (e : G D = some o) : LtsAt G (upd H D o') u := by
  obtain ⟨b, ls, h1, h0, h2, h3⟩ := x
  exact ⟨b, ls, h1, h0, by rw [upd_ne (fun z => by rw [z, e] at h0; cases h0)]; exact h2, h3⟩
theorem ShpAt.put {G H : Hp} {u : V} {D : Addr} {o o' : HO} (x : ShpAt G H u) (e : G D = some o) : ShpAt G (upd H D o') u := by
  obtain ⟨b, ls, h1, h0, h2, h3, h4, h5⟩ := x
  exact ⟨b, ls, h1, h0, by rw [upd_ne (fun z => by rw [z, e] at h0; cases h0)]; exact h2, h3, h4, fun u hu => (h5 u hu).put e⟩
theorem LtsAt.younger {G G' H : Hp} {u : V} (x : LtsAt G H u) (e : ∀ b, G b = none → G' b = none) : LtsAt G' H u := let ⟨b, ls, h1, h0, h2, h3⟩ := x; ⟨b, ls, h1, e _ h0, h2, h3⟩
theorem LtsAt.move {G H H' : Hp} {u : V} (x : LtsAt G H u) (e : ∀ b o, G b = none → H b = some o → H' b = some o) : LtsAt G H' u := let ⟨b, ls, h1, h0, h2, h3⟩ := x; ⟨b, ls, h1, h0, e _ _ h0 h2, h3⟩
theorem ShpAt.move {G H H' : Hp} {u : V} (x : ShpAt G H u) (e : ∀ b o, G b = none → H b = some o → H' b = some o) : ShpAt G H' u := let ⟨a, us, h1, h0, h2, h3, h4, h5⟩ := x; ⟨a, us, h1, h0, e _ _ h0 h2, h3, h4, fun u hu => (h5 u hu).move e⟩
theorem lts_take {z : Str} {i : Nat} {c : Nat} (h : z.cps[i]? = some c) : lts ⟨(z.cps.toList.take (i + 1)).toArray⟩ = lts ⟨(z.cps.toList.take i).toArray⟩ ++ (if !decide ((⟨#[c]⟩ : Str) = "-") then [⟨#[c]⟩] else []) := by
  have h2 : z.cps.toList[i]? = some c := by rw [Array.getElem?_toList]; exact h
  unfold lts
  rw [List.take_add_one, h2]
  simp only [List.map_append, List.filter_append, Option.toList_some, List.map_cons, List.map_nil, List.filter_cons, List.filter_nil]
theorem lts_all (z : Str) : lts ⟨(z.cps.toList.take z.cps.size).toArray⟩ = lts z := by
  unfold lts
  rw [List.take_of_length_le (by rw [Array.length_toList]; exact Nat.le_refl _)]
theorem lts_len (z : Str) : (lts z).length ≤ z.cps.size := by
  unfold lts
  refine Nat.le_trans (List.length_filter_le _ _) ?_
  rw [List.length_map, Array.length_toList]
  exact Nat.le_refl _
def exprOf : Stmt → Expr
  | .For _ _ (.Expr (.Call _ (a :: _) _ _) _ :: _) _ _ => a
  | _ => .Constant .none 0 ⟨0, 0, 0, 0⟩
def scopeOf : Expr → Scope
  | .ListComp _ _ s _ => s
  | _ => default
section
variable {P : Program} {w : World} {K : PySem.W.Frag} {mg : Str → Option Value} {base : Heap}
abbrev scO : Scope := scopeOf (exprOf ((defBody sShapes).getD 4 (.Pass ⟨0, 0, 0, 0⟩)))
def spShapes : Sp := fun vs H Q _ => vs = [] ∧ ∀ (H' : Hp) (l : Addr) (ss : List V), Same H H' → H l = none → H' l = some (.lst ss) → ss.length = 24 → (∀ v ∈ ss, ShpAt H H' v) → Q (.ref l) H'
theorem ok_shapes {f : Addr} {fd : FuncData} (F : Fun K "_law_shapes" "_law_shapes" sShapes f fd) (B : Blt mg) : FnOk P w K mg base CX0 1 f fd [] spShapes := by
  refine F.ok scShapes (fun vs H Q E h => ?_) (fun cdv A outer s H vs Q E hr h => ?_)
  · obtain ⟨rfl, _⟩ := h
    rfl
  · obtain ⟨rfl, fin⟩ := h
    have ln : ∀ n : Nat, n ≤ 1000 → n ≤ sizeLine := fun n h => Nat.le_of_lt (small1000 h)
    obtain ⟨tl, htl, ftl⟩ : ∃ t : TS, PSs (cxOf CX0 P w K mg base NS "_law_shapes" (defScope sShapes) f cdv A outer s H E).nox ((defBody sShapes).drop 4) t ∧
        ∀ (G : Hp) (p fo : Addr), Same H G → G p = some (.lst ((T1 ++ T2 ++ T3).map V.str)) → G fo = some (.lst []) → p ≠ fo → H fo = none → t { nx := fun _ H' => Q .non H', rt := Q } [some (.ref p), some (.ref fo), none, none, none] G := by
      refine ⟨_, pss_cons (ps_for PassesOwn.never rfl (pi_list (pv 0)) (pg_name (i := 2) scShapes.nd rfl (.inl rfl))
          (pss_one (ps_expr (pe_bm PySem.F.plainAttrs_list PySem.F.slot_list_append PySem.F.type_list_append mt_append (pv 1) (pa_cons
            (pe_lc (own := [("atom", 4)]) (g := gName 4) (tt := tYes) (te := tLc (iStr (tVar 4)) (gName 3) (tTest (tOp rNe (tVar 3) (tC (.str "-")))) (tVar 3) [3]) (by rfl) scShapes.nd (pi_list (pe_split (pv 2) pe_str)) (blkOk_by (own := [("atom", 4)]) (N := NS) (sc := defScope sShapes) (by decide +kernel))
              (fun _ _ _ _ _ => pg_name (i := 4) scShapes.nd rfl (Or.inl rfl)) (fun _ _ _ _ _ => pts_nil)
              (fun _ _ _ _ _ => pe_lc (own := [("sign", 3)]) (g := gName 3) (by rfl) scShapes.nd (pi_str (pv 4)) (blkOk_by (own := [("sign", 3)]) (N := NS) (sc := relS scO (defScope sShapes)) (by decide +kernel))
                (fun _ _ _ _ _ => pg_name (i := 3) scShapes.nd rfl (Or.inl rfl)) (fun _ _ _ _ _ => pts_one (pt_cmpR op_ne (pv 3) pe_str (nomark _))) (fun _ _ _ _ _ => pv 3))) pa_nil)))))
        (pss_one (ps_ret (pv 1))), fun G p fo sG hp hfo npf nfo => ?_⟩
      have free : ∀ {H' : Hp}, (∀ b o, b ≠ fo → G b = some o → H' b = some o) → (∃ o, H' fo = some o) → Same H H' := fun h1 _ b o e => h1 b o (ne_of_none e nfo) (sG b o e)
      refine ⟨_, rfl, p, rfl, ⟨_, SqL.of hp⟩, ?_⟩
      refine for_lst (xs := (T1 ++ T2 ++ T3).map V.str) (fun i σ H' => ∃ y2 ss, σ = [some (.ref p), some (.ref fo), y2, none, none] ∧ (∀ b o, b ≠ fo → G b = some o → H' b = some o) ∧ H' fo = some (.lst ss) ∧ ss.length = i ∧ ∀ v ∈ ss, ShpAt G H' v) ⟨none, [], rfl, fun _ _ _ e => e, hfo, rfl, by simp⟩ (fun i σ H' _ h => by
        obtain ⟨_, _, _, sm, _⟩ := h
        exact SqL.of (sm _ _ npf hp)) ?_ ?_
      · rintro i x σ H' hx ⟨y2, ss, rfl, sm, hf, hlen, all⟩
        rw [List.getElem?_map] at hx
        obtain ⟨z, hz, rfl⟩ := Option.map_eq_some_iff.mp hx
        have hi : i < 24 := (List.getElem?_eq_some_iff.mp hz).1
        have good := List.all_eq_true.mp okTexts z (List.mem_of_getElem? hz)
        unfold okText at good
        rw [Bool.and_eq_true, Bool.and_eq_true, Bool.and_eq_true] at good
        obtain ⟨⟨⟨g1, g2⟩, g3⟩, g4⟩ := good
        have g1 := of_decide_eq_true g1
        have g2 := of_decide_eq_true g2
        have g3 := of_decide_eq_true g3
        refine ⟨_, rfl, .inl ⟨rfl, _, SqL.of hf⟩, _, rfl, ⟨_, rfl⟩, z, " ", rfl, rfl, by decide, ln _ (by omega), fun l nl => ?_⟩
        have s1 : Same H' (upd H' l (.lst ((Txt.split z " ").map V.str))) := same_new nl
        refine ⟨l, rfl, ⟨_, SqL.of upd_same⟩, fun D nD => ?_⟩
        have hl2 : (upd (upd H' l (.lst ((Txt.split z " ").map V.str))) D (.lst [])) l = some (.lst ((Txt.split z " ").map V.str)) := at_new upd_same nD
        have s2 := s1.trans (same_new (o := .lst []) nD)
        have hD0 : (upd (upd H' l (.lst ((Txt.split z " ").map V.str))) D (.lst [])) D = some (.lst []) := upd_same
        have nlD : l ≠ D := ne_of_none upd_same nD
        have nfD : fo ≠ D := ne_of_none (s1 _ _ hf) nD
        have nD' : H' D = none := s1.free nD
        generalize upd (upd H' l (.lst ((Txt.split z " ").map V.str))) D (.lst []) = J at hl2 s2 hD0 ⊢
        refine walk_list (xs := (Txt.split z " ").map V.str) (fun j H7 => (∀ b o, b ≠ D → J b = some o → H7 b = some o) ∧ ∃ us, H7 D = some (.lst us) ∧ us.length = j ∧ ∀ u ∈ us, LtsAt J H7 u) ⟨fun _ _ _ e => e, [], hD0, rfl, by simp⟩ (fun j H7 _ h => SqL.of (h.1 _ _ nlD hl2)) ?_ ?_
        · rintro j y H7 hy ⟨sm7, us, hD7, hus, allu⟩
          rw [List.getElem?_map] at hy
          obtain ⟨at_, hat, rfl⟩ := Option.map_eq_some_iff.mp hy
          have hj : j < (Txt.split z " ").length := (List.getElem?_eq_some_iff.mp hat).1
          have g5 := List.all_eq_true.mp g4 at_ (List.mem_of_getElem? hat)
          rw [Bool.and_eq_true] at g5
          rw [Bool.and_eq_true] at g5
          have g6 := of_decide_eq_true g5.1.1
          have g7 := of_decide_eq_true g5.2
          refine ⟨rfl, ?_⟩
          refine tyes ?_
          refine ⟨_, rfl, at_, rfl, fun D2 n2 => ?_⟩
          have nD2 : D ≠ D2 := ne_of_none hD7 n2
          refine walk_str (z := at_) (fun k H8 => Same H7 H8 ∧ H8 D2 = some (.lst ((lts ⟨(at_.cps.toList.take k).toArray⟩).map V.str))) ⟨same_new n2, upd_same⟩ ?_ ?_
          · rintro k c H8 hc ⟨sm8, h8⟩
            have ht := lts_take hc
            refine ⟨rfl, ?_⟩
            refine ⟨_, rfl, rfl, _, rfl, ?_⟩
            by_cases hs : (⟨#[c]⟩ : Str) = "-"
            · rw [show (!decide (V.str ⟨#[c]⟩ = V.str "-")) = false by rw [decide_eq_true (by rw [hs])]; rfl]
              refine iteF ⟨sm8, ?_⟩
              rw [ht, hs]
              simpa using h8
            · rw [show (!decide (V.str ⟨#[c]⟩ = V.str "-")) = true by rw [decide_eq_false (fun e => hs (V.str.inj e))]; rfl]
              refine iteT ⟨_, rfl, _, h8, ?_, fun b o e => ?_, ?_⟩
              · have h1 := lts_len ⟨(at_.cps.toList.take k).toArray⟩
                have h2 : (at_.cps.toList.take k).toArray.size ≤ at_.cps.size := by
                  rw [List.size_toArray, List.length_take, Array.length_toList]
                  omega
                rw [List.length_map]
                exact small1000 (Nat.le_trans h1 (Nat.le_trans h2 (Nat.le_trans g7 (by decide))))
              · rw [upd_ne (ne_of_none e n2)]
                exact sm8 _ _ e
              · rw [upd_same, ht]
                simp [hs]
          · rintro H8 ⟨sm8, h8⟩
            rw [lts_all] at h8
            refine ⟨us, sm8 _ _ hD7, small1000 (by omega), fun b o n e => ?_, us ++ [.ref D2], upd_same, by rw [List.length_append, hus]; rfl, fun u hu => ?_⟩
            · rw [upd_ne n]
              exact sm8 _ _ (sm7 _ _ n e)
            · rcases List.mem_append.mp hu with hu | hu
              · exact ((allu u hu).same sm8).put hD0
              · rw [List.mem_singleton.mp hu]
                have nJ : J D2 = none := by
                  cases e : J D2 with
                  | none => rfl
                  | some o => exact absurd (sm7 _ _ nD2.symm e) (by rw [n2]; simp)
                exact LtsAt.put ⟨D2, lts at_, rfl, nJ, h8, g6, fun x hx => of_decide_eq_true (List.all_eq_true.mp g5.1.2 x hx)⟩ hD0
        · rintro H7 ⟨sm7, us, hD7, hus, allu⟩
          rw [List.length_map] at hus
          have hf7 := sm7 _ _ nfD (s2 _ _ hf)
          have down : ∀ b, J b = none → G b = none := fun b e => by
            cases eg : G b with
            | none => rfl
            | some o =>
              by_cases hb : b = fo
              · rw [hb, s2 _ _ hf] at e
                cases e
              · rw [s2 _ _ (sm b o hb eg)] at e
                cases e
          have nGD : G D = none := by
            cases eg : G D with
            | none => rfl
            | some o => exact absurd (sm D o nfD.symm eg) (by rw [nD']; simp)
          refine ⟨fo, ss, .ref D, rfl, rfl, hf7, small1000 (by omega), _, ss ++ [.ref D], rfl, fun b o n e => ?_, upd_same, by rw [List.length_append, hlen]; rfl, fun v hv => ?_⟩
          · rw [upd_ne n]
            have hb := sm b o n e
            exact sm7 _ _ (ne_of_none hb nD') (s2 _ _ hb)
          · rcases List.mem_append.mp hv with hv | hv
            · refine (all v hv).move fun b o gb hb => ?_
              rw [upd_ne (fun q => by rw [q, hfo] at gb; cases gb)]
              exact sm7 _ _ (ne_of_none hb nD') (s2 _ _ hb)
            · rw [List.mem_singleton.mp hv]
              refine ShpAt.put ⟨D, us, rfl, nGD, hD7, by omega, by omega, fun u hu => (allu u hu).younger down⟩ hfo
      · rintro σ H' ⟨y2, ss, rfl, sm, hf, hlen, all⟩
        refine ⟨_, rfl, ?_⟩
        exact fin H' fo ss (free sm ⟨_, hf⟩) nfo hf (by rw [hlen, List.length_map]; rfl) fun v hv => (all v hv).old sG
    refine ⟨_, pss_cons (ps_set (i := 0) scShapes.nd rfl (.inl rfl) (pe_lst (pa_cons pe_str (pa_cons pe_str (pa_cons pe_str (pa_cons pe_str (pa_cons pe_str (pa_cons pe_str (pa_cons pe_str (pa_cons pe_str (pa_cons pe_str pa_nil)))))))))))
      (pss_cons (ps_set (i := 0) scShapes.nd rfl (.inl rfl) (pe_op op_cat (pv 0) (pe_lst (pa_cons pe_str (pa_cons pe_str (pa_cons pe_str (pa_cons pe_str (pa_cons pe_str (pa_cons pe_str (pa_cons pe_str (pa_cons pe_str pa_nil)))))))))))
      (pss_cons (ps_set (i := 0) scShapes.nd rfl (.inl rfl) (pe_op op_cat (pv 0) (pe_lst (pa_cons pe_str (pa_cons pe_str (pa_cons pe_str (pa_cons pe_str (pa_cons pe_str (pa_cons pe_str (pa_cons pe_str pa_nil))))))))))
      (pss_cons (ps_set (i := 1) scShapes.nd rfl (.inl rfl) (pe_lst pa_nil)) htl))), ?_⟩
    refine ⟨ln 9 (by decide), fun a1 n1 => ?_⟩
    have s1 : Same H _ := same_new (o := .lst (T1.map V.str)) n1
    refine ⟨_, rfl, ln 8 (by decide), fun a2 n2 => ⟨a1, a2, T1.map V.str, T2.map V.str, rfl, rfl, at_new upd_same n2, upd_same, ln 17 (by decide), fun a3 n3 => ?_⟩⟩
    have s2 := s1.trans ((same_new (o := .lst (T2.map V.str)) n2).trans (same_new (o := .lst (T1.map V.str ++ T2.map V.str)) n3))
    refine ⟨_, rfl, ln 7 (by decide), fun a4 n4 => ⟨a3, a4, T1.map V.str ++ T2.map V.str, T3.map V.str, rfl, rfl, at_new upd_same n4, upd_same, ln 24 (by decide), fun p n5 => ?_⟩⟩
    have s3 := s2.trans ((same_new (o := .lst (T3.map V.str)) n4).trans (same_new (o := .lst (T1.map V.str ++ T2.map V.str ++ T3.map V.str)) n5))
    refine ⟨Nat.zero_le _, fun fo n6 => ?_⟩
    exact ftl _ p fo (s3.trans (same_new n6)) (at_new upd_same n6) upd_same (ne_of_none upd_same n6) (s3.free n6)
end
end Cut
set_option Elab.async false
set_option linter.all false
set_option maxRecDepth 100000
set_option maxHeartbeats 8000000
namespace Cut
open PySem PySem.Spec PyProof.Rows L2
/-! ### list(a text) -/
def signs (z : Str) : List Str := z.cps.toList.map fun c => ⟨#[c]⟩
def rListStr : List V → Hp → VK → Prop := fun xs H Q => ∃ z : Str, xs = [.str z] ∧ z.cps.size ≤ 1000 ∧ ∀ p, H p = none → Q (.ref p) (upd H p (.lst ((signs z).map V.str)))
theorem cr_listStr {X : Cx} (hc : X.calm = true) : CallR X (.type "list") rListStr := by
  intro pins s σ H xs us Q I r h
  obtain ⟨z, rfl, hz, q⟩ := h
  obtain ⟨u, rfl, t, rfl⟩ := vals1 r
  have big : z.cps.size ≤ sizeLine := Nat.le_of_lt (small1000 hz)
  refine call_list_str (I.ok.hd hc) z t (fun h' tk acc c kp e items => ?_) big
  refine ⟨.ref s.heap.objs.size, upd H s.heap.objs.size (.lst ((signs z).map V.str)), I.laid kp (Nat.le_refl _) ⟨by rw [List.length_map, signs, List.length_map, Array.length_toList]; exact big, acc.toList, c, ?_, by rw [Array.toArray_toList]; exact e⟩, rfl, q _ (I.hok.fresh (Nat.le_refl _))⟩
  refine vals_of_idx _ _ (by rw [List.length_map, signs, List.length_map, Array.length_toList, Array.length_toList]; exact items.1) fun j u hj => ?_
  have w := items.2 j u (by rw [← Array.getElem?_toList]; exact hj)
  obtain ⟨c, t', hc, rfl⟩ := w
  exact ⟨.str ⟨#[c]⟩, by simp [signs, hc], ⟨_, rfl⟩⟩
/-! ### what stands apart from some places -/
/-- all that is tracked stands as it was, but for what stands at X -/
def Off (X : List Addr) (H H' : Hp) : Prop := ∀ b o, b ∉ X → H b = some o → H' b = some o
theorem Off.refl (X : List Addr) (H : Hp) : Off X H H := fun _ _ _ e => e
theorem Off.trans {X : List Addr} {H H1 H2 : Hp} (x : Off X H H1) (y : Off X H1 H2) : Off X H H2 := fun b o n e => y b o n (x b o n e)
theorem Off.same {X : List Addr} {H H' : Hp} (e : Same H H') : Off X H H' := fun b o _ h => e b o h
theorem Off.but {X : List Addr} {a : Addr} {H H' : Hp} (e : But a H H') (h : a ∈ X) : Off X H H' := fun b o n k => e b o (fun z => n (z ▸ h)) k
theorem Off.put {X : List Addr} {a : Addr} {H : Hp} {o : HO} (h : a ∈ X) : Off X H (upd H a o) := fun b u n k => by
  rw [upd_ne (fun z : b = a => n (by rw [z]; exact h))]
  exact k
theorem Off.seqT {X : List Addr} {K : PySem.W.Frag} {H H' : Hp} {a : Addr} {xs : List V} (e : Off X H H') (n : a ∉ X) (h : SqT K H a xs) : SqT K H' a xs := by
  rcases h with (h | ⟨o, h⟩) | h
  · exact .inl (.inl (e _ _ n h))
  · exact .inl (.inr ⟨o, e _ _ n h⟩)
  · exact .inr h
/-- the letters of an atom, apart from X -/
def LtsX (X : List Addr) (H : Hp) (u : V) : Prop := ∃ b ls, u = .ref b ∧ b ∉ X ∧ H b = some (.lst ((ls : List Str).map V.str)) ∧ ls.length ≤ 3 ∧ ∀ x ∈ ls, x ∈ LT
theorem LtsX.off {X : List Addr} {H H' : Hp} {u : V} (x : LtsX X H u) (e : Off X H H') : LtsX X H' u := let ⟨b, ls, h1, h0, h2, h3⟩ := x; ⟨b, ls, h1, h0, e _ _ h0 h2, h3⟩
theorem LtsX.fresh {X : List Addr} {H : Hp} {u : V} {L : Addr} (x : LtsX X H u) (e : H L = none) : LtsX (L :: X) H u :=
  let ⟨b, ls, h1, h0, h2, h3⟩ := x; ⟨b, ls, h1, fun z => (List.mem_cons.mp z).elim (fun k => ne_of_none h2 e k) h0, h2, h3⟩
def AtX (X : List Addr) (K : PySem.W.Frag) (H : Hp) (v : V) (t : Atm) : Prop := ∃ a p, v = .ref a ∧ a ∉ X ∧ p ∉ X ∧ SqT K H a [.str t.1, .ref p] ∧ SqT K H p (t.2.map kV)
theorem AtX.off {X : List Addr} {K : PySem.W.Frag} {H H' : Hp} {v : V} {t : Atm} (x : AtX X K H v t) (e : Off X H H') : AtX X K H' v t :=
  let ⟨a, p, h1, n1, n2, h2, h3⟩ := x; ⟨a, p, h1, n1, n2, e.seqT n1 h2, e.seqT n2 h3⟩
theorem AtX.at_ {X : List Addr} {K : PySem.W.Frag} {H : Hp} {v : V} {t : Atm} (x : AtX X K H v t) : AtAt K H v t := let ⟨a, p, h1, _, _, h2, h3⟩ := x; ⟨a, p, h1, h2, h3⟩
/-- the tables that are drawn -/
def TB : List Str := ["r", "a", "t1", "s", "big", "c"]
/-- a part as it is drawn: a letter or a small integer -/
def okP : Key → Prop
  | .inl i => 0 ≤ i ∧ i ≤ 2
  | .inr x => x ∈ LT
structure Raw (ats : List Atm) : Prop where
  many : ats.length ≤ 6
  few : ∀ t ∈ ats, 1 ≤ t.2.length ∧ t.2.length ≤ 4
  parts : ∀ t ∈ ats, ∀ k ∈ t.2, okP k
  tabs : (ats.map (·.1)).Nodup ∧ ∀ t ∈ ats, t.1 ∈ TB
abbrev NQ : List Str := ["pot", "names", "turn", "part", "left", "atoms", "tables", "parts", "place", "name", "atom", "told", "table"]
theorem scSomeQ : FnScope NQ ["pot"] (defScope sSomeQ) := ⟨rfl, rfl, rfl, by decide +kernel, rfl, by decide +kernel, by decide +kernel⟩
end Cut
set_option Elab.async false
set_option linter.all false
set_option maxRecDepth 100000
set_option maxHeartbeats 8000000
namespace Cut
open PySem PySem.Spec PyProof.Rows L2
/-- x replaced -/
def sub1 (nm : Str) : Key → Key
  | .inl i => .inl i
  | .inr x => if x = "x" then .inr nm else .inr x
def subA (nm : Str) (t : Atm) : Atm := (t.1, t.2.map (sub1 nm))
abbrev scN : Scope := scopeOf (exprOf ((defBody sSomeQ).getD 7 (.Pass ⟨0, 0, 0, 0⟩)))
def dK : Key → PyData
  | .inl i => .int i
  | .inr x => .str x
theorem dK_dp {K : PySem.W.Frag} {H : Hp} (k : Key) : Dp K H (kV k) (dK k) := by
  cases k with
  | inl i => exact .int i
  | inr x => exact .str x
theorem lt_ok : ∀ x ∈ LT, PyData.strOk x = true := List.all_eq_true.mp (by decide +kernel : (LT.all fun x => PyData.strOk x) = true)
theorem dK_shaped (k : Key) (h : okP k) : SeqAt.shaped (dK k) = true := by
  cases k with
  | inl i => simp [SeqAt.shaped, dK, PyData.canLay0, PyData.depth]
  | inr x => simp [SeqAt.shaped, dK, PyData.canLay0, PyData.depth, lt_ok x h]
def isX : Key → Bool
  | .inl _ => false
  | .inr x => decide (x = "x")
theorem dK_x (k : Key) : PyData.eqv (dK k) (.str "x") = isX k := by
  cases k with
  | inl i => simp [dK, isX, PyData.eqv]
  | inr x =>
    simp only [dK, isX, PyData.eqv]
    by_cases h : x = "x"
    · simp [h]
    · simp [h]
theorem sub1_x (nm : Str) (k : Key) : sub1 nm k = if isX k = true then .inr nm else k := by
  cases k with
  | inl i => rfl
  | inr x =>
    unfold sub1 isX
    by_cases h : x = "x"
    · simp [h]
    · simp [h]
section
variable {P : Program} {w : World} {K : PySem.W.Frag} {mg : Str → Option Value} {base : Heap}
/-- the last part: one letter replaced, the question told -/
theorem someQ_end {f fB fC : Addr} {fd fdB fdC : FuncData} (F : Fun K "_law_some_question" "_law_some_question" sSomeQ f fd) (B : Blt mg)
    (FC : Fun K "_law_pick" "_law_pick" sPick fC fdC) (bC : Binds K fdC ["pot", "items"] []) (gC : mg "_law_pick" = some (.ref fC)) (GC : FnOk P w K mg base CX0 3 fC fdC ["pot", "items"] (spPick K))
    {cdv : Value} {A : Around} {outer : List Env} {s : Shared} {H : Hp} {E : XK} {Q : VK} (hr : Room 3 (A.deeper (envOfC "_law_some_question" (defScope sSomeQ) s.heap.objs.size f cdv))) (a b : Addr) (n : Int) (hn : n < 2 ^ 40)
    (fin : ∀ (H' : Hp) (q : Addr) (nm : Str) (ats : List Atm), But a H H' → H q = none → PotN H' a b (n + 1) → Raw ats → 1 ≤ ats.length → (nm = "x" ∨ nm = "y" ∨ ∃ t ∈ ats, nm = t.1) → QAt K H' q [] (ats.map (subA nm)) → Q (.ref q) H') :
    ∃ t : TS, PSs (cxOf CX0 P w K mg base NQ "_law_some_question" (defScope sSomeQ) f cdv A outer s H E).nox ((defBody sSomeQ).drop 5) t ∧
      ∀ (J : Hp) (x1 x2 x4 x6 x7 x8 : Option V) (o : Addr) (vs : List V) (ats : List Atm), But a H J → PotN J a b n → J o = some (.lst vs) → o ≠ a → o ≠ b → Paired (AtX [a] K J) vs ats → Raw ats → 1 ≤ ats.length →
        t { nx := fun _ H' => Q .non H', rt := Q } [some (.ref a), x1, x2, none, x4, some (.ref o), x6, x7, x8, none, none, none, none] J := by
  have nd := scSomeQ.nd
  refine ⟨_, pss_cons (ps_set (i := 9) nd rfl (.inr rfl) (pe_call GC hr (by rfl) gC FC.kp bC .nil pass0 (pa_cons (pv 0) (pa_cons
        (pe_op op_cat (pe_lst (pa_cons pe_str (pa_cons pe_str pa_nil))) (pe_lc (own := [("atom", 10)]) (g := gName 10) (tt := tYes) (te := tOp (rIxT K) (tVar 10) (tC (.int 0))) (by rfl) nd (pi_list (pv 5)) (blkOk_by (own := [("atom", 10)]) (N := NQ) (sc := defScope sSomeQ) (by decide +kernel))
          (fun _ _ _ _ _ => pg_name (i := 10) nd rfl (Or.inl rfl)) (fun _ _ _ _ _ => pts_nil) (fun _ _ _ _ _ => pe_ix ix_tup (pv 10) pe_int (fun _ _ => rfl)))) pa_nil))))
      (pss_cons (ps_set (i := 11) nd rfl (.inl rfl) (pe_lst pa_nil))
      (pss_cons (ps_for PassesOwn.never rfl (pi_list (pv 5)) (pg_tup (by rfl) (pgs_cons (pg_name (i := 12) nd rfl (.inl rfl)) (pgs_cons (pg_name (i := 7) nd rfl (.inl rfl)) pgs_nil)))
        (pss_one (ps_expr (pe_bm PySem.F.plainAttrs_list PySem.F.slot_list_append PySem.F.type_list_append mt_append (pv 11) (pa_cons (pe_tup (pa_cons (pv 12) (pa_cons
          (pe_tupleOf (by rfl) B.tuple (pe_lc (own := [("part", 3)]) (g := gName 3) (tt := tYes) (te := tIf (tTest (tOp (rEqD K) (tVar 3) (tC (.str "x")))) (tVar 9) (tVar 3)) (by rfl) nd (pi_tup (pv 7)) (blkOk_by (own := [("part", 3)]) (N := NQ) (sc := defScope sSomeQ) (by decide +kernel))
            (fun _ _ _ _ _ => pg_name (i := 3) nd rfl (Or.inl rfl)) (fun _ _ _ _ _ => pts_nil) (fun _ _ _ _ _ => pe_ifExp (pt_cmpR (op_eqD hr.units) (pv 3) pe_str (nomark _)) (pv 9) (pv 3)))) pa_nil))) pa_nil)))))
      (pss_one (ps_ret (pe_tup (pa_cons (pe_tup pa_nil) (pa_cons (pe_tupleOf (by rfl) B.tuple (pv 11)) pa_nil)))))
      )), ?_⟩
  have ln : ∀ n : Nat, n ≤ 1000 → n ≤ sizeLine := fun n h => Nat.le_of_lt (small1000 h)
  intro J x1 x2 x4 x6 x7 x8 o vs ats but pot ho noa nob hvs raw one
  have len := paired_len hvs
  have few := raw.many
  refine ⟨_, rfl, ln 2 (by decide), fun c nc => ⟨_, rfl, o, rfl, ⟨_, SqL.of (at_new ho nc)⟩, fun D nD => ?_⟩⟩
  have s1 : Same J (upd J c (.lst [.str "x", .str "y"])) := same_new nc
  have hcD : c ≠ D := ne_of_none upd_same nD
  refine walk_list (xs := vs) (fun i H7 => Same J H7 ∧ H7 c = some (.lst [.str "x", .str "y"]) ∧ H7 D = some (.lst ((ats.take i).map fun t => V.str t.1))) ⟨s1.trans (same_new nD), at_new upd_same nD, upd_same⟩ (fun i H7 _ h => SqL.of (h.1 _ _ ho)) ?_ ?_
  · rintro i x H7 hx ⟨sm, hc, hD⟩
    obtain ⟨t, ht, p, q, rfl, np, nq, h1, h2⟩ := paired_get hvs hx
    refine ⟨rfl, ?_⟩
    refine tyes ?_
    refine ⟨_, rfl, p, _, 0, .str t.1, rfl, rfl, seqT sm h1, rfl, _, hD, ?_, fun b' u e => ?_, ?_, ?_⟩
    · rw [List.length_map, List.length_take]
      exact small1000 (by omega)
    · rw [upd_ne (ne_of_none e (s1.free nD))]
      exact sm _ _ e
    · rw [upd_ne hcD]
      exact hc
    · rw [upd_same, List.take_add_one, ht, List.map_append]
      rfl
  rintro H7 ⟨sm, hc, hD⟩
  rw [len, List.take_length] at hD
  refine ⟨c, D, _, _, rfl, rfl, hc, hD, ?_, fun l nl => ?_⟩
  · rw [List.length_map]
    exact ln _ (by show 2 + ats.length ≤ 1000; omega)
  have s2 := sm.trans (same_new (o := .lst ([.str "x", .str "y"] ++ ats.map fun t => V.str t.1)) nl)
  obtain ⟨o1, ho1⟩ := pot.at1
  have nla : l ≠ a := (ne_of_none (sm _ _ ho1) nl).symm
  refine ⟨a, b, l, n, [.str "x", .str "y"] ++ ats.map fun t => V.str t.1, rfl, pot.same s2, hn, SqL.of upd_same, nla, by simp, ?_, fun i x H8 hx but8 pot8 => ?_⟩
  · have : (2 : Nat) ^ 60 = 1152921504606846976 := by decide
    rw [List.length_append, List.length_map]
    show 2 + ats.length < _
    omega
  obtain ⟨nm, hnm, rfl⟩ : ∃ nm : Str, (nm = "x" ∨ nm = "y" ∨ ∃ t ∈ ats, nm = t.1) ∧ x = .str nm := by
    have m := List.mem_of_getElem? hx
    rcases List.mem_append.mp m with m | m
    · rcases List.mem_cons.mp m with m | m
      · exact ⟨"x", .inl rfl, m⟩
      · exact ⟨"y", .inr (.inl rfl), List.mem_singleton.mp m⟩
    · obtain ⟨t, ht, rfl⟩ := List.mem_map.mp m
      exact ⟨t.1, .inr (.inr ⟨t, ht, rfl⟩), rfl⟩
  -- told = []
  have butG : But a J H8 := (Same.but s2).trans but8
  have hoG := butG _ _ noa ho
  have hvsG : Paired (AtX [a] K H8) vs ats := paired_mono (fun _ _ z => z.off (Off.but butG (by simp))) hvs
  refine ⟨Nat.zero_le _, fun tl ntl => ?_⟩
  obtain ⟨o2, ho2⟩ := pot8.at1
  have ntla : tl ≠ a := (ne_of_none ho2 ntl).symm
  have ntlo : o ≠ tl := ne_of_none hoG ntl
  refine ⟨_, rfl, o, rfl, ⟨_, SqL.of (at_new hoG ntl)⟩, ?_⟩
  refine for_lst (xs := vs) (fun i σ H9 => ∃ y7 y12 us, σ = [some (.ref a), x1, x2, none, x4, some (.ref o), x6, y7, x8, some (.str nm), none, some (.ref tl), y12] ∧ Same H8 H9 ∧ H9 tl = some (.lst us) ∧ Paired (AtX [tl] K H9) us ((ats.take i).map (subA nm))) ⟨x7, none, [], rfl, same_new ntl, upd_same, .nil⟩ (fun i σ H9 _ h => by
    obtain ⟨_, _, _, _, sm9, _⟩ := h
    exact SqL.of (sm9 _ _ hoG)) ?_ ?_
  · rintro i x σ H9 hx ⟨y7, y12, us, rfl, sm9, htl, hus⟩
    obtain ⟨t, ht, p, q, rfl, np, nq, h1, h2⟩ := paired_get hvsG hx
    have f4 := raw.few t (List.mem_of_getElem? ht)
    have lus := paired_len hus
    rw [List.length_map, List.length_take] at lus
    refine ⟨p, [.str t.1, .ref q], rfl, seqT sm9 h1, rfl, .str t.1, [.ref q], rfl, .ref q, [], rfl, rfl, ?_⟩
    refine ⟨_, rfl, .inl ⟨rfl, _, SqL.of htl⟩, _, rfl, _, rfl, q, rfl, ⟨_, seqT sm9 h2⟩, fun D2 nD2 => ?_⟩
    refine walk_tup (xs := t.2.map kV) (fun j H10 => Same H9 H10 ∧ H10 D2 = some (.lst (((t.2.take j).map (sub1 nm)).map kV))) ⟨same_new nD2, upd_same⟩ (fun j H10 _ h => seqT h.1 (seqT sm9 h2)) ?_ ?_
    · rintro j y H10 hy ⟨sm10, hD2⟩
      obtain ⟨k, hk, rfl⟩ := get_key hy
      have hj : j < t.2.length := (List.getElem?_eq_some_iff.mp hk).1
      refine ⟨rfl, ?_⟩
      refine tyes ?_
      refine ⟨_, rfl, dK k, .str "x", dK_dp k, .str _, dK_shaped k (raw.parts t (List.mem_of_getElem? ht) k (List.mem_of_getElem? hk)), dK_shaped (.inr "x") (by show _ ∈ LT; decide), _, rfl, ?_⟩
      have put : ∃ acc, H10 D2 = some (.lst acc) ∧ acc.length < sizeLine ∧ Same H9 (upd H10 D2 (.lst (acc ++ [kV (sub1 nm k)]))) ∧ upd H10 D2 (.lst (acc ++ [kV (sub1 nm k)])) D2 = some (.lst (((t.2.take (j + 1)).map (sub1 nm)).map kV)) := by
        refine ⟨_, hD2, ?_, fun b' u e => ?_, ?_⟩
        · rw [List.length_map, List.length_map, List.length_take]
          exact small1000 (by omega)
        · rw [upd_ne (ne_of_none e nD2)]
          exact sm10 _ _ e
        · rw [upd_same, List.take_add_one, hk, List.map_append, List.map_append]
          rfl
      rw [sub1_x] at put
      rw [dK_x]
      cases hX : isX k with
      | true =>
        rw [hX] at put
        exact iteT ⟨_, rfl, put⟩
      | false =>
        rw [hX] at put
        exact iteF ⟨_, rfl, put⟩
    · rintro H10 ⟨sm10, hD2⟩
      rw [List.length_map, List.take_length] at hD2
      refine .inl ⟨D2, _, rfl, SqL.of hD2, fun r nr => ⟨ln 2 (by decide), fun T nT => ?_⟩⟩
      have s11 := sm10.trans ((same_new (o := .tup ((t.2.map (sub1 nm)).map kV)) nr).trans (same_new (o := .tup [.str t.1, .ref r]) nT))
      have hr0 := at_new (u := .tup [.str t.1, .ref r]) (upd_same (H := H10) (a := r) (o := .tup ((t.2.map (sub1 nm)).map kV))) nT
      refine ⟨tl, us, .ref T, rfl, rfl, s11 _ _ htl, small1000 (by omega), _, _, us ++ [.ref T], rfl, ?_, upd_same, ?_⟩
      · intro b' u e
        rw [upd_ne (ne_of_none e ntl)]
        exact s11 _ _ (sm9 _ _ e)
      · rw [List.take_add_one, ht, List.map_append]
        have nT' : T ≠ tl := (ne_of_none (sm10 _ _ htl |> fun z => (same_new (o := .tup ((t.2.map (sub1 nm)).map kV)) nr) _ _ z) nT).symm
        have nr' : r ≠ tl := (ne_of_none (sm10 _ _ htl) nr).symm
        refine Paired.snoc (paired_mono (fun _ _ z => (z.off (Off.same s11)).off (Off.put (by simp))) hus) ?_
        exact AtX.off ⟨T, r, rfl, by simpa using nT', by simpa using nr', SqT.of upd_same, SqT.of hr0⟩ (Off.put (by simp))
  · rintro σ H9 ⟨y7, y12, us, rfl, sm9, htl, hus⟩
    rw [len, List.take_length] at hus
    refine ⟨Nat.zero_le _, fun e ne => ?_⟩
    refine ⟨_, rfl, .inl ⟨tl, us, rfl, SqL.of (at_new htl ne), fun r nr => ⟨ln 2 (by decide), fun q nq => ?_⟩⟩⟩
    have s12 := (same_new (H := H9) (o := .tup []) ne).trans ((same_new (o := .tup us) nr).trans (same_new (o := .tup [.ref e, .ref r]) nq))
    have hin : H q = none := by
      cases eq : H q with
      | none => rfl
      | some z =>
        have hqa : q ≠ a := by
          obtain ⟨z2, hz2⟩ := pot8.at1
          have := (same_new (o := .tup us) nr) _ _ ((same_new (H := H9) (o := .tup []) ne) _ _ (sm9 _ _ hz2))
          exact (ne_of_none this nq).symm
        have := (same_new (o := .tup us) nr) _ _ ((same_new (H := H9) (o := .tup []) ne) _ _ (sm9 _ _ (butG _ _ hqa (but _ _ hqa eq))))
        rw [nq] at this
        cases this
    refine fin _ q nm ats ((but.trans butG).same (sm9.trans s12)) hin (pot8.same (sm9.trans s12)) raw one hnm ?_
    refine ⟨e, r, us, SqT.of upd_same, SqT.of ?_, SqT.of ?_, paired_mono (fun _ _ z => (z.off (Off.same s12)).at_) hus⟩
    · exact at_new (at_new upd_same nr) nq
    · exact at_new upd_same nq
end
end Cut
set_option Elab.async false
set_option linter.all false
set_option maxRecDepth 100000
set_option maxHeartbeats 8000000
namespace Cut
open PySem PySem.Spec PyProof.Rows L2
theorem strs_dp {K : PySem.W.Frag} {H : Hp} : ∀ xs : List Str, DpAll K H (xs.map V.str) (xs.map PyData.str)
  | [] => .nil
  | z :: r => .cons (.str z) (strs_dp r)
theorem strs_lay : ∀ xs : List Str, (∀ x ∈ xs, x ∈ LT) → PyData.canLayAll0 (xs.map PyData.str) = true ∧ PyData.depthAll (xs.map PyData.str) = 0
  | [], _ => by simp [PyData.canLayAll0, PyData.depthAll]
  | z :: r, h => by
    have h1 := strs_lay r fun x hx => h x (List.mem_cons_of_mem _ hx)
    have h2 := lt_ok z (h z List.mem_cons_self)
    simp [PyData.canLayAll0, PyData.canLay0, PyData.depthAll, PyData.depth, h1.1, h1.2, h2]
/-- lists of letters as data -/
theorem lts_data {X : List Addr} {K : PySem.W.Frag} {H : Hp} : ∀ us : List V, (∀ u ∈ us, LtsX X H u) → ∃ ds : List PyData, DpAll K H us ds ∧ PyData.canLayAll0 ds = true ∧ PyData.depthAll ds ≤ 1 ∧ ds.length = us.length
  | [], _ => ⟨[], .nil, by simp [PyData.canLayAll0], by simp [PyData.depthAll], rfl⟩
  | u :: r, h => by
    obtain ⟨ds, h1, h2, h3, h4⟩ := lts_data r fun x hx => h x (List.mem_cons_of_mem _ hx)
    obtain ⟨b, ls, rfl, _, hb, _, hl⟩ := h u List.mem_cons_self
    have g := strs_lay ls hl
    refine ⟨.list (ls.map .str) :: ds, .cons (.lst (SqL.of hb) (strs_dp ls)) h1, ?_, ?_, by rw [List.length_cons, List.length_cons, h4]⟩
    · simp only [PyData.canLayAll0, PyData.canLay0, g.1, h2, Bool.and_self]
    · simp only [PyData.depthAll, PyData.depth, g.2]
      omega
theorem keys_dp {K : PySem.W.Frag} {H : Hp} : ∀ ks : List Key, DpAll K H (ks.map kV) (ks.map dK)
  | [] => .nil
  | z :: r => .cons (dK_dp z) (keys_dp r)
theorem keys_lay : ∀ ks : List Key, (∀ k ∈ ks, okP k) → PyData.canLayAll0 (ks.map dK) = true ∧ PyData.depthAll (ks.map dK) = 0
  | [], _ => by simp [PyData.canLayAll0, PyData.depthAll]
  | z :: r, h => by
    have h1 := keys_lay r fun x hx => h x (List.mem_cons_of_mem _ hx)
    have h2 := dK_shaped z (h z List.mem_cons_self)
    cases z with
    | inl i => simp [dK, PyData.canLayAll0, PyData.canLay0, PyData.depthAll, PyData.depth, h1.1, h1.2]
    | inr x =>
      have h3 := lt_ok x (h (.inr x) List.mem_cons_self)
      simp [dK, PyData.canLayAll0, PyData.canLay0, PyData.depthAll, PyData.depth, h1.1, h1.2, h3]
theorem shaped_list {ds : List PyData} {n : Nat} (h : PyData.canLayAll0 ds = true) (d : PyData.depthAll ds ≤ n) (hn : n ≤ 60) : SeqAt.shaped (.list ds) = true := by
  show (PyData.canLay0 (.list ds) && decide (PyData.depth (.list ds) ≤ 64)) = true
  rw [Bool.and_eq_true]
  refine ⟨by simp only [PyData.canLay0]; exact h, decide_eq_true ?_⟩
  simp only [PyData.depth]
  omega
theorem eqv_nil (ds : List PyData) : PyData.eqv (.list ds) (.list []) = ds.isEmpty := by
  cases ds with
  | nil => simp only [PyData.eqv, PyData.eqvAll, List.isEmpty]
  | cons z r => simp only [PyData.eqv, PyData.eqvAll, List.isEmpty]
theorem cut_lo (ks : List Key) (i : Nat) (h : i ≤ ks.length) : cutV (ks.map kV) none (some (i : Int)) = (ks.take i).map kV := by
  unfold cutV
  rw [show HT.sIx (ks.map kV).length (ks.map kV).length (some (i : Int)) = min i (ks.map kV).length from HT.sIx_nat _ _ i, HT.sIx_none, List.drop_zero, List.map_take]
  congr 1
  rw [List.length_map]
  omega
theorem cut_hi (ks : List Key) (i : Nat) (h : i ≤ ks.length) : cutV (ks.map kV) (some (i : Int)) none = (ks.drop i).map kV := by
  unfold cutV
  rw [show HT.sIx (ks.map kV).length 0 (some (i : Int)) = min i (ks.map kV).length from HT.sIx_nat _ _ i, HT.sIx_none, List.map_drop]
  have e : min i (ks.map kV).length = i := by rw [List.length_map]; omega
  rw [e]
  exact List.take_of_length_le (by rw [List.length_drop]; exact Nat.le_refl _)
end Cut
set_option Elab.async false
set_option linter.all false
set_option maxRecDepth 100000
set_option maxHeartbeats 8000000
namespace Cut
open PySem PySem.Spec PyProof.Rows L2
theorem erase_map {α β : Type} (f : α → β) : ∀ (l : List α) (i : Nat), (l.map f).eraseIdx i = (l.eraseIdx i).map f
  | [], _ => rfl
  | x :: l, 0 => rfl
  | x :: l, i + 1 => by
    show f x :: (l.map f).eraseIdx i = f x :: (l.eraseIdx i).map f
    rw [erase_map f l i]
/-- four lists and the cells, all apart -/
structure Apart (a b L O T : Addr) : Prop where
  ba : b ≠ a
  La : L ≠ a
  Lb : L ≠ b
  Oa : O ≠ a
  Ob : O ≠ b
  Ta : T ≠ a
  Tb : T ≠ b
  LO : L ≠ O
  LT : L ≠ T
  OT : O ≠ T
abbrev XX (a L O T : Addr) : List Addr := [a, L, O, T]
structure LoopAt (K : PySem.W.Frag) (a b L O T : Addr) (J : Hp) (us : List V) (vs : List V) (ats : List Atm) (tabs : List Str) (m : Int) : Prop where
  l : J L = some (.lst us)
  lu : ∀ u ∈ us, LtsX (XX a L O T) J u
  o : J O = some (.lst vs)
  ov : Paired (AtX (XX a L O T) K J) vs ats
  t : J T = some (.lst (tabs.map V.str))
  p : PotN J a b m
section
variable {K : PySem.W.Frag} {a b L O T : Addr} {J J' : Hp} {us vs : List V} {ats : List Atm} {tabs : List Str} {m m' : Int}
theorem LoopAt.same (x : LoopAt K a b L O T J us vs ats tabs m) (e : Same J J') : LoopAt K a b L O T J' us vs ats tabs m :=
  ⟨e _ _ x.l, fun u hu => (x.lu u hu).off (Off.same e), e _ _ x.o, paired_mono (fun _ _ z => z.off (Off.same e)) x.ov, e _ _ x.t, x.p.same e⟩
theorem LoopAt.but (x : LoopAt K a b L O T J us vs ats tabs m) (d : Apart a b L O T) (e : But a J J') (q : PotN J' a b m') : LoopAt K a b L O T J' us vs ats tabs m' :=
  ⟨e _ _ d.La x.l, fun u hu => (x.lu u hu).off (Off.but e (by simp)), e _ _ d.Oa x.o, paired_mono (fun _ _ z => z.off (Off.but e (by simp))) x.ov, e _ _ d.Ta x.t, q⟩
theorem LoopAt.popL (x : LoopAt K a b L O T J us vs ats tabs m) (d : Apart a b L O T) {ws : List V} (sub : ∀ u ∈ ws, u ∈ us) : LoopAt K a b L O T (upd J L (.lst ws)) ws vs ats tabs m :=
  ⟨upd_same, fun u hu => (x.lu u (sub u hu)).off (Off.put (by simp)), by rw [upd_ne d.LO.symm]; exact x.o, paired_mono (fun _ _ z => z.off (Off.put (by simp))) x.ov, by rw [upd_ne d.LT.symm]; exact x.t, x.p.put d.La d.Lb⟩
theorem LoopAt.popT (x : LoopAt K a b L O T J us vs ats tabs m) (d : Apart a b L O T) (ts : List Str) : LoopAt K a b L O T (upd J T (.lst (ts.map V.str))) us vs ats ts m :=
  ⟨by rw [upd_ne d.LT]; exact x.l, fun u hu => (x.lu u hu).off (Off.put (by simp)), by rw [upd_ne d.OT]; exact x.o, paired_mono (fun _ _ z => z.off (Off.put (by simp))) x.ov, upd_same, x.p.put d.Ta d.Tb⟩
theorem LoopAt.app (x : LoopAt K a b L O T J us vs ats tabs m) (d : Apart a b L O T) {v : V} {t : Atm} (h : AtX (XX a L O T) K J v t) : LoopAt K a b L O T (upd J O (.lst (vs ++ [v]))) us (vs ++ [v]) (ats ++ [t]) tabs m :=
  ⟨by rw [upd_ne d.LO]; exact x.l, fun u hu => (x.lu u hu).off (Off.put (by simp)), upd_same, Paired.snoc (paired_mono (fun _ _ z => z.off (Off.put (by simp))) x.ov) (h.off (Off.put (by simp))), by rw [upd_ne d.OT.symm]; exact x.t, x.p.put d.Oa d.Ob⟩
/-- what is new stands apart -/
theorem LoopAt.new (x : LoopAt K a b L O T J us vs ats tabs m) {p : Addr} (n : J p = none) : p ∉ XX a L O T := by
  obtain ⟨o, ho⟩ := x.p.at1
  intro h
  simp only [List.mem_cons, List.not_mem_nil, or_false] at h
  rcases h with rfl | rfl | rfl | rfl
  · rw [ho] at n; cases n
  · rw [x.l] at n; cases n
  · rw [x.o] at n; cases n
  · rw [x.t] at n; cases n
end
theorem idx_nat {r : Int} {n : Nat} (h0 : 0 ≤ r) (h1 : r < (n : Int)) : seqIndex? r n = some r.toNat ∧ r.toNat < n := by
  unfold seqIndex?
  refine ⟨?_, by omega⟩
  have e : ¬ r < 0 := by omega
  simp only [if_neg e]
  rw [if_pos (by simp [h0, h1])]
section
variable {P : Program} {w : World} {K : PySem.W.Frag} {mg : Str → Option Value} {base : Heap}
def whileBody : Stmt → List Stmt
  | .While _ b _ _ => b
  | _ => []
abbrev bW : List Stmt := whileBody ((defBody sSomeQ).getD 4 (.Pass ⟨0, 0, 0, 0⟩))
/-- atoms.append((tables.pop(..), tuple(parts))) -/
theorem someQ_app {f fB : Addr} {fd fdB : FuncData} (B : Blt mg)
    (FB : Fun K "_law_below" "_law_below" sBelow fB fdB) (bB : Binds K fdB ["pot", "bound"] []) (gB : mg "_law_below" = some (.ref fB)) (GB : FnOk P w K mg base CX0 2 fB fdB ["pot", "bound"] spBelow)
    {cdv : Value} {A : Around} {outer : List Env} {s : Shared} {H : Hp} {E : XK} (hr : Room 2 (A.deeper (envOfC "_law_some_question" (defScope sSomeQ) s.heap.objs.size f cdv))) :
    ∃ t : TS, PSs (cxOf CX0 P w K mg base NQ "_law_some_question" (defScope sSomeQ) f cdv A outer s H E).nox (bW.drop 2) t ∧
      ∀ (a b L O T : Addr), Apart a b L O T → ∀ (D : Ends) (J : Hp) (us vs : List V) (ats : List Atm) (tabs : List Str) (m : Int) (x1 x2 x8 : Option V) (p : Addr) (ks : List Key), LoopAt K a b L O T J us vs ats tabs m → m < 2 ^ 40 → tabs.length ≤ 6 → 0 < tabs.length → vs.length ≤ 6 → J p = some (.lst (ks.map kV)) → p ∉ XX a L O T →
        (∀ (J' : Hp) (v : V) (i : Nat) (x : Str), tabs[i]? = some x → But a J (upd J' O (.lst vs)) ∨ True → LoopAt K a b L O T J' us (vs ++ [v]) (ats ++ [(x, ks)]) (tabs.eraseIdx i) (m + 1) → (∀ c o, c ∉ XX a L O T → J c = some o → J' c = some o) →
          D.nx [some (.ref a), x1, x2, none, some (.ref L), some (.ref O), some (.ref T), some (.ref p), x8, none, none, none, none] J') →
        t D [some (.ref a), x1, x2, none, some (.ref L), some (.ref O), some (.ref T), some (.ref p), x8, none, none, none, none] J := by
  have nd := scSomeQ.nd
  refine ⟨_, pss_one (ps_expr (pe_bm PySem.F.plainAttrs_list PySem.F.slot_list_append PySem.F.type_list_append mt_append (pv 5) (pa_cons (pe_tup (pa_cons
      (pe_bm PySem.F.plainAttrs_list PySem.F.slot_list_pop PySem.F.type_list_pop mt_popAt (pv 6) (pa_cons (pe_call GB hr (by rfl) gB FB.kp bB .nil pass0 (pa_cons (pv 0) (pa_cons (pe_callB call_len_seq (by rfl) B.len PySem.boot_len (pa_cons (pv 6) pa_nil)) pa_nil))) pa_nil))
      (pa_cons (pe_tupleOf (by rfl) B.tuple (pv 7)) pa_nil))) pa_nil))), ?_⟩
  intro a b L O T d D J us vs ats tabs m x1 x2 x8 p ks S hm ht0 ht1 hv hp np nxt
  refine ⟨_, rfl, .inl ⟨rfl, _, SqL.of S.o⟩, _, rfl, .inl ⟨rfl, _, SqL.of S.t⟩, _, rfl, _, rfl, T, _, rfl, .inl (SqL.of S.t), ?_⟩
  have lt : (((tabs.map V.str).length : Nat) : Int) = (tabs.length : Int) := by rw [List.length_map]
  refine ⟨a, b, _, m, rfl, S.p, hm, by rw [lt]; omega, ?_, fun r J1 r0 r1 but1 pot1 => ?_⟩
  · have : (2 : Nat) ^ 8 ≤ 2 ^ 8000 := Nat.pow_le_pow_right (by decide) (by decide)
    rw [lt]
    omega
  rw [lt] at r1
  have S1 := S.but d but1 pot1
  obtain ⟨i1, i2⟩ := idx_nat r0 r1
  refine ⟨T, _, r, r.toNat, .str tabs[r.toNat], rfl, rfl, S1.t, by omega, by omega, by rw [List.length_map]; exact i1, by rw [List.getElem?_map, List.getElem?_eq_getElem i2]; rfl, ?_⟩
  have e1 : (tabs.map V.str).eraseIdx r.toNat = (tabs.eraseIdx r.toNat).map V.str := erase_map V.str tabs r.toNat
  rw [e1]
  have S2 := S1.popT d (tabs.eraseIdx r.toNat)
  have hp2 : (upd J1 T (.lst ((tabs.eraseIdx r.toNat).map V.str))) p = some (.lst (ks.map kV)) := by
    simp only [List.mem_cons, List.not_mem_nil, or_false, not_or] at np
    rw [upd_ne np.2.2.2]
    exact but1 _ _ np.1 hp
  refine ⟨_, rfl, .inl ⟨p, _, rfl, SqL.of hp2, fun q nq => ⟨Nat.le_of_lt (small1000 (by decide : 2 ≤ 1000)), fun z nz => ?_⟩⟩⟩
  have S3 := (S2.same (same_new (o := .tup (ks.map kV)) nq)).same (same_new (o := .tup [.str tabs[r.toNat], .ref q]) nz)
  refine ⟨O, vs, .ref z, rfl, rfl, S3.o, small1000 (by omega), ?_⟩
  refine nxt _ (.ref z) r.toNat tabs[r.toNat] (List.getElem?_eq_getElem i2) (.inr trivial) (S3.app d ⟨z, q, rfl, ?_, S2.new nq, SqT.of upd_same, SqT.of (at_new upd_same nz)⟩) fun c o nc hc => ?_
  · exact (S2.same (same_new (o := .tup (ks.map kV)) nq)).new nz
  · have hc2 := nc
    simp only [List.mem_cons, List.not_mem_nil, or_false, not_or] at nc
    rw [upd_ne nc.2.2.1]
    refine same_new nz _ _ (same_new nq _ _ ?_)
    rw [upd_ne nc.2.2.2]
    exact but1 _ _ nc.1 hc
end
end Cut
set_option Elab.async false
set_option linter.all false
set_option maxRecDepth 100000
set_option maxHeartbeats 8000000
namespace Cut
open PySem PySem.Spec PyProof.Rows L2
def okKs (ks : List Key) : Prop := 1 ≤ ks.length ∧ ks.length ≤ 4 ∧ ∀ k ∈ ks, okP k
theorem lts_keys (ls : List Str) : ls.map V.str = (ls.map (Sum.inr (α := Int))).map kV := (txt_kV ls).symm
theorem ins_ok {ls : List Str} {i : Nat} {r : Int} (h3 : ls.length ≤ 3) (hl : ∀ x ∈ ls, x ∈ LT) (hi : i ≤ ls.length) (r0 : 0 ≤ r) (r1 : r < 3) :
    okKs ((ls.map (Sum.inr (α := Int))).take i ++ [.inl r] ++ (ls.map Sum.inr).drop i) := by
  refine ⟨by simp; omega, ?_, fun k hk => ?_⟩
  · simp only [List.length_append, List.length_take, List.length_drop, List.length_map, List.length_cons, List.length_nil]
    omega
  · rcases List.mem_append.mp hk with hk | hk
    · rcases List.mem_append.mp hk with hk | hk
      · obtain ⟨x, hx, rfl⟩ := List.mem_map.mp (List.mem_of_mem_take hk)
        exact hl x hx
      · rw [List.mem_singleton.mp hk]
        exact ⟨r0, by omega⟩
    · obtain ⟨x, hx, rfl⟩ := List.mem_map.mp (List.mem_of_mem_drop hk)
      exact hl x hx
section
variable {P : Program} {w : World} {K : PySem.W.Frag} {mg : Str → Option Value} {base : Heap}
/-- place = ..; parts = parts[:place] + [..] + parts[place:] -/
theorem someQ_put {f fB : Addr} {fd fdB : FuncData} (B : Blt mg)
    (FB : Fun K "_law_below" "_law_below" sBelow fB fdB) (bB : Binds K fdB ["pot", "bound"] []) (gB : mg "_law_below" = some (.ref fB)) (GB : FnOk P w K mg base CX0 2 fB fdB ["pot", "bound"] spBelow)
    {cdv : Value} {A : Around} {outer : List Env} {s : Shared} {H : Hp} {E : XK} (hr : Room 2 (A.deeper (envOfC "_law_some_question" (defScope sSomeQ) s.heap.objs.size f cdv))) :
    ∃ t : TS, PSs (cxOf CX0 P w K mg base NQ "_law_some_question" (defScope sSomeQ) f cdv A outer s H E).nox (ifBody (bW.getD 1 (.Pass ⟨0, 0, 0, 0⟩))) t ∧
      ∀ (a b L O T : Addr), Apart a b L O T → ∀ (D : Ends) (J : Hp) (us vs : List V) (ats : List Atm) (tabs : List Str) (m : Int) (x1 x2 x8 : Option V) (p : Addr) (ls : List Str), LoopAt K a b L O T J us vs ats tabs m → m + 4 < 2 ^ 40 →
        J p = some (.lst (ls.map V.str)) → ls.length ≤ 3 → (∀ x ∈ ls, x ∈ LT) → p ∉ XX a L O T →
        (∀ (J' : Hp) (q : Addr) (ks : List Key) (x8 : Option V), okKs ks → LoopAt K a b L O T J' us vs ats tabs (m + 2) → J' q = some (.lst (ks.map kV)) → q ∉ XX a L O T → (∀ c o, c ∉ XX a L O T → J c = some o → J' c = some o) →
          D.nx [some (.ref a), x1, x2, none, some (.ref L), some (.ref O), some (.ref T), some (.ref q), x8, none, none, none, none] J') →
        t D [some (.ref a), x1, x2, none, some (.ref L), some (.ref O), some (.ref T), some (.ref p), x8, none, none, none, none] J := by
  have nd := scSomeQ.nd
  have ln : ∀ n : Nat, n ≤ 1000 → n ≤ sizeLine := fun n h => Nat.le_of_lt (small1000 h)
  have big : ∀ n : Nat, n ≤ 256 → ((n : Int)).natAbs < 2 ^ 8000 := fun n h => by
    have : (2 : Nat) ^ 9 ≤ 2 ^ 8000 := Nat.pow_le_pow_right (by decide) (by decide)
    omega
  refine ⟨_, pss_cons (ps_set (i := 8) nd rfl (.inl rfl) (pe_call GB hr (by rfl) gB FB.kp bB .nil pass0 (pa_cons (pv 0) (pa_cons (pe_op op_add (pe_callB call_len_seq (by rfl) B.len PySem.boot_len (pa_cons (pv 7) pa_nil)) pe_int) pa_nil))))
      (pss_one (ps_set (i := 7) nd rfl (.inl rfl) (pe_op op_cat (pe_op op_cat (pe_slice sl_list (pv 7) po_none (po_some (pv 8))) (pe_lst (pa_cons (pe_call GB hr (by rfl) gB FB.kp bB .nil pass0 (pa_cons (pv 0) (pa_cons pe_int pa_nil))) pa_nil))) (pe_slice sl_list (pv 7) (po_some (pv 8)) po_none)))), ?_⟩
  intro a b L O T d D J us vs ats tabs m x1 x2 x8 p ls S hm hp h3 hl np nxt
  have np' := np
  simp only [List.mem_cons, List.not_mem_nil, or_false, not_or] at np'
  have lk : ((ls.map V.str).length : Nat) = ls.length := List.length_map ..
  -- place
  refine ⟨_, rfl, _, rfl, p, _, rfl, .inl (SqL.of hp), _, _, rfl, rfl, a, b, _, m, rfl, S.p, by omega, by rw [lk]; omega, ?_, fun r J1 r0 r1 but1 pot1 => ?_⟩
  · rw [lk]
    exact big (ls.length + 1) (by omega)
  rw [lk] at r1
  obtain ⟨i, rfl⟩ : ∃ i : Nat, r = (i : Int) := ⟨r.toNat, by omega⟩
  have hi : i ≤ ls.length := by omega
  have S1 := S.but d but1 pot1
  have hp1 := but1 _ _ np'.1 hp
  -- parts[:place]
  refine ⟨_, rfl, _, rfl, _, rfl, p, _, rfl, SqL.of hp1, fun c1 n1 => ?_⟩
  have e1 : cutV (ls.map V.str) none (some (i : Int)) = ((ls.map (Sum.inr (α := Int))).take i).map kV := by
    rw [lts_keys, cut_lo _ _ (by rw [List.length_map]; exact hi)]
  rw [e1]
  have S2 := S1.same (same_new (o := .lst (((ls.map (Sum.inr (α := Int))).take i).map kV)) n1)
  have hp2 := same_new (o := .lst (((ls.map (Sum.inr (α := Int))).take i).map kV)) n1 _ _ hp1
  have hc1 : upd J1 c1 (.lst (((ls.map (Sum.inr (α := Int))).take i).map kV)) c1 = some (.lst (((ls.map (Sum.inr (α := Int))).take i).map kV)) := upd_same
  have nc1 : c1 ∉ XX a L O T := S1.new n1
  have k2 : ∀ c o, c ∉ XX a L O T → J c = some o → upd J1 c1 (.lst (((ls.map (Sum.inr (α := Int))).take i).map kV)) c = some o := fun c o nc hc => by
    simp only [List.mem_cons, List.not_mem_nil, or_false, not_or] at nc
    exact same_new n1 _ _ (but1 _ _ nc.1 hc)
  generalize upd J1 c1 (.lst (((ls.map (Sum.inr (α := Int))).take i).map kV)) = J2 at S2 hp2 hc1 k2 ⊢
  -- [..]
  refine ⟨_, rfl, a, b, 3, m + 1, rfl, S2.p, by omega, by decide, big 3 (by decide), fun r J3 r0 r1 but3 pot3 => ?_⟩
  have S3 := S2.but d but3 pot3
  have nc1' := nc1
  simp only [List.mem_cons, List.not_mem_nil, or_false, not_or] at nc1'
  have hp3 := but3 _ _ np'.1 hp2
  have hc3 := but3 _ _ nc1'.1 hc1
  have k3 : ∀ c o, c ∉ XX a L O T → J c = some o → J3 c = some o := fun c o nc hc => by
    have z := k2 c o nc hc
    simp only [List.mem_cons, List.not_mem_nil, or_false, not_or] at nc
    exact but3 _ _ nc.1 z
  refine ⟨ln 1 (by decide), fun c2 n2 => ?_⟩
  refine ⟨c1, c2, _, _, rfl, rfl, at_new hc3 n2, upd_same, ?_, fun c3 n3 => ?_⟩
  · rw [List.length_map, List.length_take, List.length_map]
    exact ln _ (by show _ + 1 ≤ 1000; omega)
  have s5 := (same_new (H := J3) (o := .lst [.int r]) n2).trans (same_new (o := .lst (((ls.map (Sum.inr (α := Int))).take i).map kV ++ [.int r])) n3)
  have S5 := S3.same s5
  have hp5 := s5 _ _ hp3
  have h5 : upd (upd J3 c2 (.lst [.int r])) c3 (.lst (((ls.map (Sum.inr (α := Int))).take i).map kV ++ [.int r])) c3 = some (.lst (((ls.map (Sum.inr (α := Int))).take i).map kV ++ [.int r])) := upd_same
  have k5 : ∀ c o, c ∉ XX a L O T → J c = some o → upd (upd J3 c2 (.lst [.int r])) c3 (.lst (((ls.map (Sum.inr (α := Int))).take i).map kV ++ [.int r])) c = some o := fun c o nc hc => s5 _ _ (k3 c o nc hc)
  generalize upd (upd J3 c2 (.lst [.int r])) c3 (.lst (((ls.map (Sum.inr (α := Int))).take i).map kV ++ [.int r])) = J5 at S5 hp5 h5 k5 ⊢
  -- parts[place:]
  refine ⟨_, rfl, _, rfl, _, rfl, p, _, rfl, SqL.of hp5, fun c4 n4 => ?_⟩
  have e4 : cutV (ls.map V.str) (some (i : Int)) none = ((ls.map (Sum.inr (α := Int))).drop i).map kV := by
    rw [lts_keys, cut_hi _ _ (by rw [List.length_map]; exact hi)]
  rw [e4]
  refine ⟨c3, c4, _, _, rfl, rfl, at_new h5 n4, upd_same, ?_, fun q nq => ?_⟩
  · simp only [List.length_append, List.length_map, List.length_take, List.length_drop, List.length_cons, List.length_nil]
    exact ln _ (by omega)
  have s7 := (same_new (H := J5) (o := .lst (((ls.map (Sum.inr (α := Int))).drop i).map kV)) n4).trans (same_new (o := .lst (((ls.map (Sum.inr (α := Int))).take i).map kV ++ [.int r] ++ ((ls.map (Sum.inr (α := Int))).drop i).map kV)) nq)
  have e7 : ((ls.map (Sum.inr (α := Int))).take i).map kV ++ [.int r] ++ ((ls.map (Sum.inr (α := Int))).drop i).map kV = ((ls.map (Sum.inr (α := Int))).take i ++ [Sum.inl r] ++ (ls.map Sum.inr).drop i).map kV := by
    rw [List.map_append, List.map_append]
    rfl
  have nq' : q ∉ XX a L O T := (S5.same (same_new (o := .lst (((ls.map (Sum.inr (α := Int))).drop i).map kV)) n4)).new nq
  refine nxt _ q _ _ (ins_ok h3 hl hi r0 r1) ?_ (by rw [upd_same, e7]) nq' fun c o nc hc => s7 _ _ (k5 c o nc hc)
  have S7 := S5.same s7
  have em : m + 1 + 1 = m + 2 := by omega
  rw [em] at S7
  exact S7
theorem someQ_turn {f fB : Addr} {fd fdB : FuncData} (B : Blt mg)
    (FB : Fun K "_law_below" "_law_below" sBelow fB fdB) (bB : Binds K fdB ["pot", "bound"] []) (gB : mg "_law_below" = some (.ref fB)) (GB : FnOk P w K mg base CX0 2 fB fdB ["pot", "bound"] spBelow)
    {cdv : Value} {A : Around} {outer : List Env} {s : Shared} {H : Hp} {E : XK} (hr : Room 2 (A.deeper (envOfC "_law_some_question" (defScope sSomeQ) s.heap.objs.size f cdv))) :
    ∃ t : TS, PSs (cxOf CX0 P w K mg base NQ "_law_some_question" (defScope sSomeQ) f cdv A outer s H E).nox (bW.drop 1) t ∧
      ∀ (a b L O T : Addr), Apart a b L O T → ∀ (D : Ends) (J : Hp) (us vs : List V) (ats : List Atm) (tabs : List Str) (m : Int) (x1 x2 x8 : Option V) (p : Addr) (ls : List Str), LoopAt K a b L O T J us vs ats tabs m → m + 9 < 2 ^ 40 → tabs.length ≤ 6 → 0 < tabs.length → vs.length ≤ 6 →
        J p = some (.lst (ls.map V.str)) → ls.length ≤ 3 → (∀ x ∈ ls, x ∈ LT) → p ∉ XX a L O T →
        (∀ (J' : Hp) (v : V) (i : Nat) (x : Str) (ks : List Key) (x7 x8 : Option V), tabs[i]? = some x → okKs ks → LoopAt K a b L O T J' us (vs ++ [v]) (ats ++ [(x, ks)]) (tabs.eraseIdx i) (m + 4) → (∀ c o, c ∉ XX a L O T → J c = some o → J' c = some o) →
          D.nx [some (.ref a), x1, x2, none, some (.ref L), some (.ref O), some (.ref T), x7, x8, none, none, none, none] J') →
        t D [some (.ref a), x1, x2, none, some (.ref L), some (.ref O), some (.ref T), some (.ref p), x8, none, none, none, none] J := by
  have nd := scSomeQ.nd
  have ln : ∀ n : Nat, n ≤ 1000 → n ≤ sizeLine := fun n h => Nat.le_of_lt (small1000 h)
  obtain ⟨tA, hA, fA⟩ := someQ_app (P := P) (w := w) (base := base) (f := f) (fd := fd) B FB bB gB GB (cdv := cdv) (A := A) (outer := outer) (s := s) (H := H) (E := E) hr
  obtain ⟨tP, hP, fP⟩ := someQ_put (P := P) (w := w) (base := base) (f := f) (fd := fd) B FB bB gB GB (cdv := cdv) (A := A) (outer := outer) (s := s) (H := H) (E := E) hr
  refine ⟨_, pss_cons (ps_if (PW.pt (pw_or (pt_cmpR (op_eqD hr.units) (pv 7) (pe_lst pa_nil) (nomark _)) (pw_or1 (pt_cmpR op_eq (pe_call GB hr (by rfl) gB FB.kp bB .nil pass0 (pa_cons (pv 0) (pa_cons pe_int pa_nil))) pe_int (nomark _)))))
      hP pss_nil) hA, ?_⟩
  intro a b L O T d D J us vs ats tabs m x1 x2 x8 p ls S hm ht0 ht1 hv hp h3 hl np nxt
  have np' := np
  simp only [List.mem_cons, List.not_mem_nil, or_false, not_or] at np'
  have big : (6 : Int).natAbs < 2 ^ 8000 := by
    have : (2 : Nat) ^ 9 ≤ 2 ^ 8000 := Nat.pow_le_pow_right (by decide) (by decide)
    show 6 < 2 ^ 8000
    omega
  refine ⟨_, rfl, Nat.zero_le _, fun e ne => ?_⟩
  have s1 : Same J (upd J e (.lst [])) := same_new ne
  have S1 := S.same s1
  have hp1 := s1 _ _ hp
  have he : upd J e (.lst []) e = some (.lst []) := upd_same
  have k1 : ∀ c o, c ∉ XX a L O T → J c = some o → upd J e (.lst []) c = some o := fun c o _ hc => s1 _ _ hc
  generalize upd J e (.lst []) = J1 at S1 hp1 he k1 ⊢
  have g := strs_lay ls hl
  refine ⟨.list (ls.map .str), .list [], .lst (SqL.of hp1) (strs_dp ls), .lst (SqL.of he) .nil, shaped_list g.1 (Nat.le_of_eq g.2) (by decide), by decide, _, rfl, ?_⟩
  rw [eqv_nil]
  have fin : ∀ (J2 : Hp) (m2 : Int) (q : Addr) (ks : List Key) (y8 : Option V), m2 ≤ m + 3 → okKs ks → LoopAt K a b L O T J2 us vs ats tabs m2 → J2 q = some (.lst (ks.map kV)) → q ∉ XX a L O T → (∀ c o, c ∉ XX a L O T → J c = some o → J2 c = some o) →
      tA D [some (.ref a), x1, x2, none, some (.ref L), some (.ref O), some (.ref T), some (.ref q), y8, none, none, none, none] J2 := fun J2 m2 q ks y8 h2 ok S2 hq nq k2 =>
    fA a b L O T d D J2 us vs ats tabs m2 x1 x2 y8 q ks S2 (by omega) ht0 ht1 hv hq nq fun J' v i x hx _ S' k' => nxt J' v i x ks _ _ hx ok ⟨S'.l, S'.lu, S'.o, S'.ov, S'.t, S'.p.mono (by omega)⟩ fun c o nc hc => k' c o nc (k2 c o nc hc)
  refine ite2 (fun _ => iteT ?_) (fun hne => ?_)
  · exact fP a b L O T d { D with nx := tA D } J1 us vs ats tabs m x1 x2 x8 p ls S1 (by omega) hp1 h3 hl np fun J' q ks y8 ok S' hq nq k' => fin J' (m + 2) q ks y8 (by omega) ok S' hq nq fun c o nc hc => k' c o nc (k1 c o nc hc)
  · refine ⟨_, rfl, a, b, 6, m, rfl, S1.p, by omega, by decide, big, fun r J2 r0 r1 but2 pot2 => ?_⟩
    have S2 := S1.but d but2 pot2
    have hp2 := but2 _ _ np'.1 hp1
    have k2 : ∀ c o, c ∉ XX a L O T → J c = some o → J2 c = some o := fun c o nc hc => by
      have z := k1 c o nc hc
      simp only [List.mem_cons, List.not_mem_nil, or_false, not_or] at nc
      exact but2 _ _ nc.1 z
    refine ⟨rfl, _, rfl, ite2 (fun _ => ?_) (fun _ => ?_)⟩
    · exact fP a b L O T d { D with nx := tA D } J2 us vs ats tabs (m + 1) x1 x2 x8 p ls S2 (by omega) hp2 h3 hl np fun J' q ks y8 ok S' hq nq k' => fin J' (m + 1 + 2) q ks y8 (by omega) ok S' hq nq fun c o nc hc => k' c o nc (k2 c o nc hc)
    · refine fin J2 (m + 1) p (ls.map .inr) x8 (by omega) ⟨?_, by rw [List.length_map]; omega, fun k hk => ?_⟩ S2 (by rw [← lts_keys]; exact hp2) np k2
      · cases ls with
        | nil => exact absurd rfl hne
        | cons z r => simp
      · obtain ⟨x, hx, rfl⟩ := List.mem_map.mp hk
        exact hl x hx
end
end Cut
set_option Elab.async false
set_option linter.all false
set_option maxRecDepth 100000
set_option maxHeartbeats 8000000
namespace Cut
open PySem PySem.Spec PyProof.Rows L2
structure TabsOk (ats : List Atm) (tabs : List Str) : Prop where
  len : ats.length + tabs.length = 6
  nd : (ats.map (·.1) ++ tabs).Nodup
  inT : ∀ x ∈ tabs, x ∈ TB
  inA : ∀ t ∈ ats, t.1 ∈ TB
  ok : ∀ t ∈ ats, okKs t.2
theorem TabsOk.start : TabsOk [] TB := ⟨rfl, by decide, fun _ h => h, fun _ h => by simp at h, fun _ h => by simp at h⟩
theorem perm_at {α : Type} : ∀ (l : List α) (i : Nat) (x : α), l[i]? = some x → (x :: l.eraseIdx i).Perm l
  | [], i, x, h => by simp at h
  | y :: l, 0, x, h => by
    rw [List.getElem?_cons_zero] at h
    cases h
    exact List.Perm.refl _
  | y :: l, i + 1, x, h => by
    rw [List.getElem?_cons_succ] at h
    exact (List.Perm.swap y x _).trans ((perm_at l i x h).cons y)
theorem TabsOk.step {ats : List Atm} {tabs : List Str} (h : TabsOk ats tabs) {i : Nat} {x : Str} {ks : List Key} (hx : tabs[i]? = some x) (hk : okKs ks) : TabsOk (ats ++ [(x, ks)]) (tabs.eraseIdx i) := by
  have hi : i < tabs.length := (List.getElem?_eq_some_iff.mp hx).1
  have p := perm_at tabs i x hx
  refine ⟨?_, ?_, fun y hy => h.inT y (List.mem_of_mem_eraseIdx hy), fun t ht => ?_, fun t ht => ?_⟩
  · rw [List.length_append, List.length_eraseIdx_of_lt hi]
    have := h.len
    show ats.length + 1 + _ = 6
    omega
  · rw [List.map_append, List.append_assoc]
    exact (List.Perm.append_left _ p).nodup_iff.mpr h.nd
  · rcases List.mem_append.mp ht with ht | ht
    · exact h.inA t ht
    · rw [List.mem_singleton.mp ht]
      exact h.inT x (List.mem_of_getElem? hx)
  · rcases List.mem_append.mp ht with ht | ht
    · exact h.ok t ht
    · rw [List.mem_singleton.mp ht]
      exact hk
theorem TabsOk.raw {ats : List Atm} {tabs : List Str} (h : TabsOk ats tabs) : Raw ats :=
  ⟨by have := h.len; omega, fun t ht => ⟨(h.ok t ht).1, (h.ok t ht).2.1⟩, fun t ht => (h.ok t ht).2.2, ⟨(List.nodup_append.mp h.nd).1, h.inA⟩⟩
section
variable {P : Program} {w : World} {K : PySem.W.Frag} {mg : Str → Option Value} {base : Heap}
theorem someQ_loop {f fB fC : Addr} {fd fdB fdC : FuncData} (F : Fun K "_law_some_question" "_law_some_question" sSomeQ f fd) (B : Blt mg)
    (FB : Fun K "_law_below" "_law_below" sBelow fB fdB) (bB : Binds K fdB ["pot", "bound"] []) (gB : mg "_law_below" = some (.ref fB)) (GB : FnOk P w K mg base CX0 2 fB fdB ["pot", "bound"] spBelow)
    (FC : Fun K "_law_pick" "_law_pick" sPick fC fdC) (bC : Binds K fdC ["pot", "items"] []) (gC : mg "_law_pick" = some (.ref fC)) (GC : FnOk P w K mg base CX0 3 fC fdC ["pot", "items"] (spPick K))
    {cdv : Value} {A : Around} {outer : List Env} {s : Shared} {H : Hp} {E : XK} {Q : VK} (hr : Room 3 (A.deeper (envOfC "_law_some_question" (defScope sSomeQ) s.heap.objs.size f cdv))) (a b : Addr) (n : Int) (hn : n + 60 < 2 ^ 40)
    (fin : ∀ (H' : Hp) (q : Addr) (nm : Str) (ats : List Atm), But a H H' → H q = none → PotN H' a b (n + 41) → Raw ats → 1 ≤ ats.length → (nm = "x" ∨ nm = "y" ∨ ∃ t ∈ ats, nm = t.1) → QAt K H' q [] (ats.map (subA nm)) → Q (.ref q) H') :
    ∃ t : TS, PSs (cxOf CX0 P w K mg base NQ "_law_some_question" (defScope sSomeQ) f cdv A outer s H E).nox ((defBody sSomeQ).drop 4) t ∧
      ∀ (J : Hp) (x1 x2 : Option V) (L O T : Addr) (us : List V), Apart a b L O T → H L = none → H O = none → H T = none → But a H J → LoopAt K a b L O T J us [] [] TB n → 1 ≤ us.length → us.length ≤ 6 →
        t { nx := fun _ H' => Q .non H', rt := Q } [some (.ref a), x1, x2, none, some (.ref L), some (.ref O), some (.ref T), none, none, none, none, none, none] J := by
  have nd := scSomeQ.nd
  have hr2 : Room 2 _ := hr.mono (by decide)
  obtain ⟨tE, hE, fE⟩ := someQ_end (f := f) (fd := fd) (fB := fB) (fdB := fdB) F B FC bC gC GC (cdv := cdv) (A := A) (outer := outer) (s := s) (H := H) (E := E) (Q := Q) hr a b (n + 40) (by omega) (fun H' q nm ats h1 h2 h3 => fin H' q nm ats h1 h2 (h3.mono (by omega)))
  obtain ⟨tT, hT, fT⟩ := someQ_turn (P := P) (w := w) (base := base) (f := f) (fd := fd) B FB bB gB GB (cdv := cdv) (A := A) (outer := outer) (s := s) (H := H) (E := E) hr2
  refine ⟨_, pss_cons (ps_while PassesOwn.never (pt_cmpR (op_neD hr.units) (pv 4) (pe_lst pa_nil) (nomark _))
      (pss_cons (ps_set (i := 7) nd rfl (.inl rfl) (pe_bm PySem.F.plainAttrs_list PySem.F.slot_list_pop PySem.F.type_list_pop mt_popAt (pv 4) (pa_cons (pe_call GB hr2 (by rfl) gB FB.kp bB .nil pass0 (pa_cons (pv 0) (pa_cons (pe_callB call_len_seq (by rfl) B.len PySem.boot_len (pa_cons (pv 4) pa_nil)) pa_nil))) pa_nil))) hT)) hE, ?_⟩
  intro J x1 x2 L O T us0 d hL hO hT0 but S0 h1 h6
  refine ⟨fun m σ H1 => ∃ us vs ats tabs x7 x8 n1, σ = [some (.ref a), x1, x2, none, some (.ref L), some (.ref O), some (.ref T), x7, x8, none, none, none, none] ∧ LoopAt K a b L O T H1 us vs ats tabs n1 ∧ TabsOk ats tabs ∧ us.length = m ∧ us.length + ats.length = us0.length ∧ n1 + 6 * us.length ≤ n + 36 ∧ But a H H1,
    ⟨us0.length, us0, [], [], TB, none, none, n, rfl, S0, TabsOk.start, rfl, by simp, by omega, but⟩, fun m σ H1 hW => ?_⟩
  obtain ⟨us, vs, ats, tabs, x7, x8, n1, rfl, S, tok, rfl, hN, hn1, but1⟩ := hW
  have lv := paired_len S.ov
  obtain ⟨ds, e1, e2, e3, e4⟩ := lts_data (K := K) us S.lu
  refine ⟨_, rfl, Nat.zero_le _, fun e ne => ?_⟩
  have s2 : Same H1 (upd H1 e (.lst [])) := same_new ne
  have S2 := S.same s2
  have b2 := but1.same s2
  have he : upd H1 e (.lst []) e = some (.lst []) := upd_same
  obtain ⟨ds, e1, e2, e3, e4⟩ := lts_data (K := K) us S2.lu
  generalize upd H1 e (.lst []) = H2 at S2 b2 he e1 ⊢
  refine ⟨.list ds, .list [], .lst (SqL.of S2.l) e1, .lst (SqL.of he) .nil, shaped_list e2 e3 (by decide), by decide, _, rfl, ?_⟩
  rw [eqv_nil]
  cases us with
  | nil =>
    have z : ds.isEmpty = true := by
      cases ds with
      | nil => rfl
      | cons q r => simp at e4
    rw [z]
    refine iteF ?_
    have l0 : ats.length = us0.length := by simpa using hN
    refine fE H2 x1 x2 _ _ x7 x8 O vs ats b2 (S2.p.mono (by omega)) S2.o d.Oa d.Ob (paired_mono (fun _ _ y => ?_) S2.ov) tok.raw (by omega)
    obtain ⟨p, q, g1, g2, g3, g4, g5⟩ := y
    exact ⟨p, q, g1, fun h => g2 (by rw [List.mem_singleton.mp h]; exact List.mem_cons_self), fun h => g3 (by rw [List.mem_singleton.mp h]; exact List.mem_cons_self), g4, g5⟩
  | cons u0 ur =>
    have z : ds.isEmpty = false := by
      cases ds with
      | nil => simp at e4
      | cons q r => rfl
    rw [z]
    refine iteT ⟨fun σ' H' => ∃ us vs ats tabs x7 x8 n1, σ' = [some (.ref a), x1, x2, none, some (.ref L), some (.ref O), some (.ref T), x7, x8, none, none, none, none] ∧ LoopAt K a b L O T H' us vs ats tabs n1 ∧ TabsOk ats tabs ∧ us.length = ur.length ∧ us.length + ats.length = us0.length ∧ n1 + 6 * us.length ≤ n + 36 ∧ But a H H', fun σ' H' hN' => ⟨ur.length, by simp, hN'⟩, ?_⟩
    have lu : (u0 :: ur).length = ur.length + 1 := rfl
    refine ⟨_, rfl, .inl ⟨rfl, _, SqL.of S2.l⟩, _, rfl, _, rfl, L, _, rfl, .inl (SqL.of S2.l), a, b, _, n1, rfl, S2.p, by omega, by rw [lu]; omega, ?_, fun r J1 r0 r1 but3 pot3 => ?_⟩
    · have : (2 : Nat) ^ 8 ≤ 2 ^ 8000 := Nat.pow_le_pow_right (by decide) (by decide)
      rw [lu]
      omega
    have S3 := S2.but d but3 pot3
    obtain ⟨i1, i2⟩ := idx_nat r0 r1
    refine ⟨L, _, r, r.toNat, (u0 :: ur)[r.toNat], rfl, rfl, S3.l, by omega, by rw [lu] at r1; omega, i1, List.getElem?_eq_getElem i2, ?_⟩
    obtain ⟨p, ls, ep, np, hp, l3, ll⟩ := S3.lu _ (List.getElem_mem i2)
    rw [ep]
    have S4 := S3.popL d (ws := (u0 :: ur).eraseIdx r.toNat) fun u hu => List.mem_of_mem_eraseIdx hu
    have hp4 : upd J1 L (.lst ((u0 :: ur).eraseIdx r.toNat)) p = some (.lst (ls.map V.str)) := by
      have np' := np
      simp only [List.mem_cons, List.not_mem_nil, or_false, not_or] at np'
      rw [upd_ne np'.2.1]
      exact hp
    have tl := tok.len
    have le : ((u0 :: ur).eraseIdx r.toNat).length = ur.length := by
      rw [List.length_eraseIdx_of_lt i2]
      rfl
    refine fT a b L O T d _ _ _ vs ats tabs (n1 + 1) x1 x2 x8 p ls S4 (by omega) (by omega) (by rw [lu] at hN; omega) (by omega) hp4 l3 ll np fun J' v i x ks y7 y8 hx ok S' kp => ?_
    refine ⟨_, _, _, _, y7, y8, n1 + 1 + 4, rfl, S', tok.step hx ok, le, by rw [le, List.length_append]; rw [lu] at hN; show ur.length + (ats.length + 1) = _; omega, by rw [le]; rw [lu] at hn1; omega, fun c o nc hc => ?_⟩
    refine kp c o ?_ ?_
    · intro h
      simp only [List.mem_cons, List.not_mem_nil, or_false] at h
      rcases h with h | h | h | h
      · exact nc h
      · rw [h, hL] at hc; cases hc
      · rw [h, hO] at hc; cases hc
      · rw [h, hT0] at hc; cases hc
    · rw [upd_ne (ne_of_none hc hL)]
      exact but3 _ _ nc (b2 _ _ nc hc)
end
end Cut
set_option Elab.async false
set_option linter.all false
set_option maxRecDepth 100000
set_option maxHeartbeats 8000000
namespace Cut
open PySem PySem.Spec PyProof.Rows L2
theorem walk_rng {lo : Int} {n : Nat} {H0 : Hp} {Done : Hp → Prop} {Body : Nat → V → Hp → (Hp → Prop) → Prop} (Pv : Nat → Hp → Prop) (h0 : Pv 0 H0)
    (turn : ∀ i H, i < n → Pv i H → Body i (.int (lo + i)) H (Pv (i + 1))) (fin : ∀ H, Pv n H → Done H) :
    ∃ W : Nat → Nat → Hp → Prop, (∃ m, W 0 m H0) ∧ ∀ i m H, W i m H →
      ((Itr lo n).stop i H ∧ Done H) ∨ ((Itr lo n).go i H ∧ ∃ Nx : Hp → Prop, (∀ H', Nx H' → ∃ m', m' < m ∧ W (i + 1) m' H') ∧ ∀ x H', (Itr lo n).yld i H x H' → Body i x H' Nx) := by
  refine ⟨fun i m H => m + i = n ∧ Pv i H, ⟨n, rfl, h0⟩, fun i m H h => ?_⟩
  obtain ⟨em, p⟩ := h
  by_cases lt : i < n
  · refine .inr ⟨lt, Pv (i + 1), fun H' p' => ⟨m - 1, by omega, by omega, p'⟩, fun x H' y => ?_⟩
    obtain ⟨rfl, rfl⟩ := y
    exact turn i _ lt p
  · have e : i = n := by omega
    subst e
    exact .inl ⟨Nat.le_refl _, fin H p⟩
theorem for_rng {lo : Int} {n : Nat} {σ0 : L2.St} {H0 : Hp} {Done : L2.St → Hp → Prop} {Body : Nat → V → L2.St → Hp → (L2.St → Hp → Prop) → Prop} (Pv : Nat → L2.St → Hp → Prop) (h0 : Pv 0 σ0 H0)
    (turn : ∀ i σ H, i < n → Pv i σ H → Body i (.int (lo + i)) σ H (Pv (i + 1))) (fin : ∀ σ H, Pv n σ H → Done σ H) :
    ∃ W : Nat → Nat → L2.St → Hp → Prop, (∃ m, W 0 m σ0 H0) ∧ ∀ i m σ H, W i m σ H →
      ((Itr lo n).stop i H ∧ Done σ H) ∨ ((Itr lo n).go i H ∧ ∃ Nx : L2.St → Hp → Prop, (∀ σ' H', Nx σ' H' → ∃ m', m' < m ∧ W (i + 1) m' σ' H') ∧ ∀ x H', (Itr lo n).yld i H x H' → Body i x σ H' Nx) := by
  refine ⟨fun i m σ H => m + i = n ∧ Pv i σ H, ⟨n, rfl, h0⟩, fun i m σ H h => ?_⟩
  obtain ⟨em, p⟩ := h
  by_cases lt : i < n
  · refine .inr ⟨lt, Pv (i + 1), fun σ' H' p' => ⟨m - 1, by omega, by omega, p'⟩, fun x H' y => ?_⟩
    obtain ⟨rfl, rfl⟩ := y
    exact turn i σ _ lt p
  · have e : i = n := by omega
    subst e
    exact .inl ⟨Nat.le_refl _, fin σ H p⟩
theorem PotN.free {H : Hp} {a b p : Addr} {n : Int} (x : PotN H a b n) (h : H p = none) : p ≠ a ∧ p ≠ b := by
  obtain ⟨o1, h1⟩ := x.at1
  obtain ⟨o2, h2⟩ := x.at2
  exact ⟨(ne_of_none h1 h).symm, (ne_of_none h2 h).symm⟩
theorem signs_lt : ∀ x ∈ signs "wxyzu", x ∈ LT := fun x h => of_decide_eq_true (List.all_eq_true.mp (by decide +kernel : ((signs "wxyzu").all fun x => decide (x ∈ LT)) = true) x h)
theorem But.lift {a : Addr} {H H1 : Hp} {D : Addr} {o : HO} (x : But a H H1) (h : H D = none) : But a H (L2.upd H1 D o) := fun b u n e => by
  rw [upd_ne (ne_of_none e h)]
  exact x b u n e
section
variable {P : Program} {w : World} {K : PySem.W.Frag} {mg : Str → Option Value} {base : Heap}
abbrev bIf : List Stmt := ifBody ((defBody sSomeQ).getD 1 (.Pass ⟨0, 0, 0, 0⟩))
/-- names by chance -/
theorem someQ_any {f fB fC : Addr} {fd fdB fdC : FuncData} (B : Blt mg)
    (FB : Fun K "_law_below" "_law_below" sBelow fB fdB) (bB : Binds K fdB ["pot", "bound"] []) (gB : mg "_law_below" = some (.ref fB)) (GB : FnOk P w K mg base CX0 2 fB fdB ["pot", "bound"] spBelow)
    (FC : Fun K "_law_pick" "_law_pick" sPick fC fdC) (bC : Binds K fdC ["pot", "items"] []) (gC : mg "_law_pick" = some (.ref fC)) (GC : FnOk P w K mg base CX0 3 fC fdC ["pot", "items"] (spPick K))
    {cdv : Value} {A : Around} {outer : List Env} {s : Shared} {H : Hp} {E : XK} (hr : Room 3 (A.deeper (envOfC "_law_some_question" (defScope sSomeQ) s.heap.objs.size f cdv))) :
    ∃ t : TS, PSs (cxOf CX0 P w K mg base NQ "_law_some_question" (defScope sSomeQ) f cdv A outer s H E).nox bIf t ∧
      ∀ (a b : Addr) (D : Ends) (J : Hp) (x1 : Option V) (n : Int), PotN J a b n → n + 60 < 2 ^ 40 →
        (∀ (J' : Hp) (N : Addr) (us : List V) (x2 : Option V), But a J J' → PotN J' a b (n + 26) → J' N = some (.lst us) → N ≠ a → 1 ≤ us.length → us.length ≤ 6 → (∀ u ∈ us, LtsX [a] J' u) →
          D.nx [some (.ref a), some (.ref N), x2, none, none, none, none, none, none, none, none, none, none] J') →
        t D [some (.ref a), x1, none, none, none, none, none, none, none, none, none, none, none] J := by
  have nd := scSomeQ.nd
  have hr2 : Room 2 _ := hr.mono (by decide)
  refine ⟨_, pss_cons (ps_set (i := 1) nd rfl (.inl rfl) (pe_lst pa_nil))
      (pss_one (ps_for PassesOwn.never rfl (pi_range1 (by rfl) B.range (pa_cons (pe_op op_add pe_int (pe_call GB hr2 (by rfl) gB FB.kp bB .nil pass0 (pa_cons (pv 0) (pa_cons pe_int pa_nil)))) pa_nil)) (pg_name (i := 2) nd rfl (.inl rfl))
        (pss_one (ps_expr (pe_bm PySem.F.plainAttrs_list PySem.F.slot_list_append PySem.F.type_list_append mt_append (pv 1) (pa_cons
          (pe_lc (own := [("part", 3)]) (g := gName 3) (tt := tYes) (te := tCall (spPick K) [] E0 (tCons (tVar 0) (tCons (tCB rListStr (tCons (tC (.str "wxyzu")) tNil)) tNil))) (by rfl) nd
            (pi_range1 (by rfl) B.range (pa_cons (pe_op op_add pe_int (pe_call GB hr2 (by rfl) gB FB.kp bB .nil pass0 (pa_cons (pv 0) (pa_cons pe_int pa_nil)))) pa_nil)) (blkOk_by (own := [("part", 3)]) (N := NQ) (sc := defScope sSomeQ) (by decide +kernel))
            (fun _ _ _ _ _ => pg_name (i := 3) nd rfl (Or.inl rfl)) (fun _ _ _ _ _ => pts_nil)
            (fun _ _ _ _ _ => pe_call GC hr (by rfl) gC FC.kp bC .nil pass0 (pa_cons (pv 0) (pa_cons (pe_callTy (T := "list") (r := rListStr) (cr_listStr (by rfl)) (by rfl) B.list (by decide +kernel) (pa_cons pe_str pa_nil)) pa_nil)))) pa_nil)))))), ?_⟩
  intro a b D J x1 n pot hn nxt
  have big : ∀ n : Nat, n ≤ 256 → ((n : Int)).natAbs < 2 ^ 8000 := fun n h => by
    have : (2 : Nat) ^ 9 ≤ 2 ^ 8000 := Nat.pow_le_pow_right (by decide) (by decide)
    omega
  refine ⟨Nat.zero_le _, fun N nN => ?_⟩
  obtain ⟨Na, Nb⟩ := pot.free nN
  have s1 : Same J (upd J N (.lst [])) := same_new nN
  have p1 := pot.same s1
  have hN : upd J N (.lst []) N = some (.lst []) := upd_same
  have b1 : But a J (upd J N (.lst [])) := Same.but s1
  generalize upd J N (.lst []) = J1 at p1 hN b1 ⊢
  refine ⟨_, rfl, a, b, 5, n, rfl, p1, by omega, by decide, big 5 (by decide), fun r J2 r0 r1 but2 pot2 => ?_⟩
  refine ⟨_, _, rfl, rfl, 1 + r, rfl, by omega, by omega, ?_⟩
  have hN2 := but2 _ _ Na hN
  have b2 := b1.trans but2
  refine for_rng (lo := 0) (n := (1 + r).toNat) (fun i σ H' => ∃ x2 us, σ = [some (.ref a), some (.ref N), x2, none, none, none, none, none, none, none, none, none, none] ∧ But a J H' ∧ H' N = some (.lst us) ∧ us.length = i ∧ (∀ u ∈ us, LtsX [a, N] H' u) ∧ PotN H' a b (n + 1 + 5 * i)) ⟨none, [], rfl, b2, hN2, rfl, by simp, by simpa using pot2⟩ ?_ ?_
  · rintro i σ H' hi ⟨x2, us, rfl, bH, hNH, lus, all, potH⟩
    refine ⟨_, rfl, .inl ⟨rfl, _, SqL.of hNH⟩, _, rfl, a, b, 3, _, rfl, potH, by omega, by decide, big 3 (by decide), fun r2 J3 r20 r21 but3 pot3 => ?_⟩
    refine ⟨_, _, rfl, rfl, 1 + r2, rfl, by omega, by omega, fun D2 nD => ?_⟩
    obtain ⟨Da, Db⟩ := pot3.free nD
    have hN3 := but3 _ _ Na hNH
    have DN : N ≠ D2 := ne_of_none hN3 nD
    have nDH : H' D2 = none := by
      cases e : H' D2 with
      | none => rfl
      | some o => exact absurd (but3 _ _ Da e) (by rw [nD]; simp)
    refine walk_rng (lo := 0) (n := (1 + r2).toNat) (fun j H8 => But a H' H8 ∧ PotN H8 a b (n + 1 + 5 * i + 1 + j) ∧ ∃ ls : List Str, H8 D2 = some (.lst (ls.map V.str)) ∧ ls.length = j ∧ ∀ x ∈ ls, x ∈ LT) ⟨but3.trans (Same.but (same_new nD)), by simpa using pot3.put Da Db, [], upd_same, rfl, by simp⟩ ?_ ?_
    · rintro j H8 hj ⟨b8, p8, ls, hD, ll, lt⟩
      refine ⟨rfl, ?_⟩
      refine tyes ?_
      refine ⟨_, rfl, "wxyzu", rfl, by decide, fun l nl => ?_⟩
      obtain ⟨la, lb⟩ := p8.free nl
      have s8 : Same H8 (upd H8 l (.lst ((signs "wxyzu").map V.str))) := same_new nl
      refine ⟨a, b, l, _, (signs "wxyzu").map V.str, rfl, p8.same s8, by omega, SqL.of upd_same, la, by decide, by decide, fun k x H9 hx but9 pot9 => ?_⟩
      rw [List.getElem?_map] at hx
      obtain ⟨z, hz, rfl⟩ := Option.map_eq_some_iff.mp hx
      have hD9 := but9 _ _ Da (s8 _ _ hD)
      refine ⟨_, hD9, by rw [List.length_map]; exact small1000 (by omega), ((b8.same s8).trans but9).lift nDH, ?_, ls ++ [z], ?_, by rw [List.length_append, ll]; rfl, fun x hx => ?_⟩
      · have q := pot9.put (o := .lst (ls.map V.str ++ [V.str z])) Da Db
        have e : n + 1 + 5 * (i : Int) + 1 + (j : Int) + 1 = n + 1 + 5 * (i : Int) + 1 + ((j + 1 : Nat) : Int) := by omega
        rw [e] at q
        exact q
      · rw [upd_same, List.map_append]
        rfl
      · rcases List.mem_append.mp hx with hx | hx
        · exact lt x hx
        · rw [List.mem_singleton.mp hx]
          exact signs_lt z (List.mem_of_getElem? hz)
    · rintro H8 ⟨b8, p8, ls, hD, ll, lt⟩
      have hN8 := b8 _ _ Na hNH
      refine ⟨N, us, .ref D2, rfl, rfl, hN8, small1000 (by omega), _, us ++ [.ref D2], rfl, ?_, upd_same, by rw [List.length_append, lus]; rfl, fun u hu => ?_, ?_⟩
      · exact (bH.trans b8).lift (by
          cases e : J N with
          | none => rfl
          | some o => rw [nN] at e; cases e)
      · have offX : Off [a, N] H' (upd H8 N (.lst (us ++ [.ref D2]))) := (Off.but b8 (by simp)).trans (Off.put (by simp))
        rcases List.mem_append.mp hu with hu | hu
        · exact (all u hu).off offX
        · rw [List.mem_singleton.mp hu]
          exact ⟨D2, ls, rfl, by simp only [List.mem_cons, List.not_mem_nil, or_false, not_or]; exact ⟨Da, DN.symm⟩, by rw [upd_ne DN.symm]; exact hD, by omega, lt⟩
      · exact (p8.put Na Nb).mono (by omega)
  · rintro σ H' ⟨x2, us, rfl, bH, hNH, lus, all, potH⟩
    refine nxt H' N us x2 bH (potH.mono (by omega)) hNH Na (by omega) (by omega) fun u hu => ?_
    obtain ⟨c, ls, h1, h2, h3⟩ := all u hu
    exact ⟨c, ls, h1, fun z => h2 (by rw [List.mem_singleton.mp z]; exact List.mem_cons_self), h3⟩
end
end Cut
set_option Elab.async false
set_option linter.all false
set_option maxRecDepth 100000
set_option maxHeartbeats 8000000
namespace Cut
open PySem PySem.Spec PyProof.Rows L2
theorem But.free {a : Addr} {H J : Hp} {p : Addr} (x : But a H J) (n : p ≠ a) (h : J p = none) : H p = none := by
  cases e : H p with
  | none => rfl
  | some o => rw [x _ _ n e] at h; cases h
section
variable {P : Program} {w : World} {K : PySem.W.Frag} {mg : Str → Option Value} {base : Heap}
def spSomeQ (K : PySem.W.Frag) : Sp := fun vs H Q _ => ∃ (a b : Addr) (n : Int), vs = [.ref a] ∧ PotN H a b n ∧ n + 200 < 2 ^ 40 ∧
  ∀ (H' : Hp) (q : Addr) (nm : Str) (ats : List Atm), But a H H' → H q = none → PotN H' a b (n + 100) → Raw ats → 1 ≤ ats.length → (nm = "x" ∨ nm = "y" ∨ ∃ t ∈ ats, nm = t.1) → QAt K H' q [] (ats.map (subA nm)) → Q (.ref q) H'
theorem ok_someQ {f fB fC fS : Addr} {fd fdB fdC fdS : FuncData} (F : Fun K "_law_some_question" "_law_some_question" sSomeQ f fd) (B : Blt mg)
    (FB : Fun K "_law_below" "_law_below" sBelow fB fdB) (bB : Binds K fdB ["pot", "bound"] []) (gB : mg "_law_below" = some (.ref fB)) (GB : FnOk P w K mg base CX0 2 fB fdB ["pot", "bound"] spBelow)
    (FC : Fun K "_law_pick" "_law_pick" sPick fC fdC) (bC : Binds K fdC ["pot", "items"] []) (gC : mg "_law_pick" = some (.ref fC)) (GC : FnOk P w K mg base CX0 3 fC fdC ["pot", "items"] (spPick K))
    (FS : Fun K "_law_shapes" "_law_shapes" sShapes fS fdS) (bS : Binds K fdS [] []) (gS : mg "_law_shapes" = some (.ref fS)) (GS : FnOk P w K mg base CX0 1 fS fdS [] spShapes) :
    FnOk P w K mg base CX0 4 f fd ["pot"] (spSomeQ K) := by
  refine F.ok scSomeQ (fun vs H Q E h => ?_) (fun cdv A outer s H vs Q E hr h => ?_)
  · obtain ⟨a, b, n, rfl, _⟩ := h
    rfl
  · obtain ⟨a, b, n, rfl, pot, hn, fin⟩ := h
    have nd := scSomeQ.nd
    have hr1 : Room 1 _ := hr.mono (by decide)
    have ln : ∀ n : Nat, n ≤ 1000 → n ≤ sizeLine := fun n h => Nat.le_of_lt (small1000 h)
    obtain ⟨tL, hL, fL⟩ := someQ_loop (f := f) (fd := fd) F B FB bB gB GB FC bC gC GC (cdv := cdv) (A := A) (outer := outer) (s := s) (H := H) (E := E) (Q := Q) hr a b (n + 30) (by omega) (fun H' q nm ats h1 h2 h3 => fin H' q nm ats h1 h2 (h3.mono (by omega)))
    obtain ⟨tN, hN, fN⟩ := someQ_any (P := P) (w := w) (base := base) (f := f) (fd := fd) B FB bB gB GB FC bC gC GC (cdv := cdv) (A := A) (outer := outer) (s := s) (H := H) (E := E) hr
    obtain ⟨tC, hC, fC'⟩ : ∃ t : TS, PSs (cxOf CX0 P w K mg base NQ "_law_some_question" (defScope sSomeQ) f cdv A outer s H E).nox ((defBody sSomeQ).drop 2) t ∧
        ∀ (J : Hp) (x2 : Option V) (nm : Addr) (us : List V), But a H J → PotN J a b (n + 30) → J nm = some (.lst us) → 1 ≤ us.length → us.length ≤ 6 → (∀ u ∈ us, LtsX [a] J u) →
          t { nx := fun _ H' => Q .non H', rt := Q } [some (.ref a), some (.ref nm), x2, none, none, none, none, none, none, none, none, none, none] J := by
      refine ⟨_, pss_cons (ps_par (i := 4) (j := 5) (by rfl) nd rfl rfl (by decide) rfl rfl (pa_cons (pe_callTy (T := "list") call_list_of (by rfl) B.list (by decide +kernel) (pa_cons (pv 1) pa_nil)) (pa_cons (pe_lst pa_nil) pa_nil)) (by rfl))
        (pss_cons (ps_set (i := 6) nd rfl (.inl rfl) (pe_lst (pa_cons pe_str (pa_cons pe_str (pa_cons pe_str (pa_cons pe_str (pa_cons pe_str (pa_cons pe_str pa_nil)))))))) hL), ?_⟩
      intro J x2 nm us but pot hnm h1 h6 all
      refine ⟨_, rfl, nm, us, rfl, .inl (SqL.of hnm), fun L nL => ⟨Nat.zero_le _, fun O nO => ⟨_, _, rfl, ?_⟩⟩⟩
      refine ⟨ln 6 (by decide), fun T nT => ?_⟩
      have sL : Same J _ := same_new (o := .lst us) nL
      have sO := sL.trans (same_new (o := .lst []) nO)
      have sT := sO.trans (same_new (o := .lst (TB.map V.str)) nT)
      have hLT := at_new (u := .lst (TB.map V.str)) (at_new (u := .lst []) (upd_same (H := J) (a := L) (o := .lst us)) nO) nT
      have hOT := at_new (u := .lst (TB.map V.str)) (upd_same (H := upd J L (.lst us)) (a := O) (o := .lst [])) nT
      obtain ⟨La, Lb⟩ := pot.free nL
      obtain ⟨Oa, Ob⟩ := (pot.same sL).free nO
      obtain ⟨Ta, Tb⟩ := (pot.same sO).free nT
      have LO : L ≠ O := ne_of_none upd_same nO
      have LT' : L ≠ T := ne_of_none (at_new upd_same nO) nT
      have OT : O ≠ T := ne_of_none upd_same nT
      have JO : J O = none := sL.free nO
      have JT : J T = none := sO.free nT
      refine fL _ _ x2 L O T us ⟨pot.ne12, La, Lb, Oa, Ob, Ta, Tb, LO, LT', OT⟩ (but.free La nL) (but.free Oa JO) (but.free Ta JT) (but.same sT) ⟨hLT, fun u hu => ?_, hOT, .nil, upd_same, pot.same sT⟩ h1 h6
      obtain ⟨c, ls, e1, e2, e3, e4⟩ := all u hu
      refine ⟨c, ls, e1, ?_, sT _ _ e3, e4⟩
      simp only [List.mem_cons, List.not_mem_nil, or_false, not_or] at e2 ⊢
      exact ⟨e2, ne_of_none e3 nL, ne_of_none e3 JO, ne_of_none e3 JT⟩
    refine ⟨_, pss_cons (ps_set (i := 1) nd rfl (.inl rfl) (pe_call GC hr (by rfl) gC FC.kp bC .nil pass0 (pa_cons (pv 0) (pa_cons (pe_op op_cat (pe_call0 GS hr1 (by rfl) gS FS.kp bS .nil pass0) (pe_lst (pa_cons pe_non (pa_cons pe_non (pa_cons pe_non pa_nil))))) pa_nil))))
      (pss_cons (ps_if (pt_cmp (pc_isN (pv 1))) hN pss_nil) hC), ?_⟩
    refine ⟨_, rfl, rfl, fun H1 l ss s1 nl hl lss all => ?_⟩
    refine ⟨ln 3 (by decide), fun c nc => ⟨l, c, ss, [.non, .non, .non], rfl, rfl, at_new hl nc, upd_same, by rw [lss]; exact ln 27 (by decide), fun i0 ni => ?_⟩⟩
    have s2 := (s1.trans (same_new (o := .lst [.non, .non, .non]) nc)).trans (same_new (o := .lst (ss ++ [.non, .non, .non])) ni)
    have s12 := (same_new (H := H1) (o := .lst [.non, .non, .non]) nc).trans (same_new (o := .lst (ss ++ [.non, .non, .non])) ni)
    obtain ⟨ia, ib⟩ := (pot.same (s1.trans (same_new (o := .lst [.non, .non, .non]) nc))).free ni
    refine ⟨a, b, i0, n, ss ++ [.non, .non, .non], rfl, pot.same s2, by omega, SqL.of upd_same, ia, by simp, by rw [List.length_append, lss]; decide, fun i x H2 hx but2 pot2 => ?_⟩
    have butH : But a H H2 := (Same.but s2).trans but2
    rcases List.mem_append.mp (List.mem_of_getElem? hx) with m | m
    · obtain ⟨nm, us, rfl, g0, h2, h3, h4, h5⟩ := all x m
      have young : ∀ p o, H p = none → H1 p = some o → H2 p = some o := fun p o gp hp => but2 _ _ (fun e => by
        obtain ⟨z, hz⟩ := pot.at1
        rw [e, hz] at gp
        cases gp) (s12 _ _ hp)
      refine ⟨_, rfl, _, rfl, iteF ?_⟩
      refine fC' H2 none nm us butH (pot2.mono (by omega)) (young _ _ g0 h2) h3 h4 fun u hu => ?_
      obtain ⟨p, ls, e1, e2, e3, e4⟩ := h5 u hu
      refine ⟨p, ls, e1, fun z => ?_, young _ _ e2 e3, e4⟩
      rw [List.mem_singleton.mp z] at e2
      obtain ⟨q, hq⟩ := pot.at1
      rw [hq] at e2
      cases e2
    · have ex : x = .non := by
        simp only [List.mem_cons, List.not_mem_nil, or_false] at m
        rcases m with m | m | m <;> exact m
      subst ex
      refine ⟨_, rfl, _, rfl, iteT ?_⟩
      exact fN a b _ H2 _ (n + 1) pot2 (by omega) fun J' N us x2 bJ pJ hN' na h1 h6 all => fC' J' x2 N us (butH.trans bJ) (pJ.mono (by omega)) hN' h1 h6 all
end
end Cut
set_option Elab.async false
set_option linter.all false
set_option maxRecDepth 100000
set_option maxHeartbeats 8000000
namespace Cut
open PySem PySem.Spec PyProof.Rows L2
/-- tuples stay where one list changes -/
theorem seqT_but {K : PySem.W.Frag} {H H' : Hp} {a c : Addr} {l xs : List V} (e : But a H H') (ha : H a = some (.lst l)) (h : SqT K H c xs) : SqT K H' c xs := by
  rcases h with (h | ⟨o, h⟩) | h
  · exact .inl (.inl (e _ _ (fun z => by rw [z, ha] at h; cases h) h))
  · exact .inl (.inr ⟨o, e _ _ (fun z => by rw [z, ha] at h; cases h) h⟩)
  · exact .inr h
theorem QAt.but {K : PySem.W.Frag} {H H' : Hp} {a q : Addr} {l : List V} {head : List Str} {ats : List Atm} (x : QAt K H q head ats) (e : But a H H') (ha : H a = some (.lst l)) : QAt K H' q head ats :=
  let ⟨h, s, vs, h1, h2, h3, h4⟩ := x; ⟨h, s, vs, seqT_but e ha h1, seqT_but e ha h2, seqT_but e ha h3, paired_mono (fun _ _ ⟨c, p, g1, g2, g3⟩ => ⟨c, p, g1, seqT_but e ha g2, seqT_but e ha g3⟩) h4⟩
theorem PotN.lst {H : Hp} {a b : Addr} {n : Int} (x : PotN H a b n) : ∃ l, H a = some (.lst l) := let ⟨_, _, _, _, h, _⟩ := x; ⟨_, h.at_⟩
theorem strs_layO : ∀ xs : List Str, (∀ x ∈ xs, PyData.strOk x = true) → PyData.canLayAll0 (xs.map PyData.str) = true ∧ PyData.depthAll (xs.map PyData.str) = 0
  | [], _ => by simp [PyData.canLayAll0, PyData.depthAll]
  | z :: r, h => by
    have h1 := strs_layO r fun x hx => h x (List.mem_cons_of_mem _ hx)
    have h2 := h z List.mem_cons_self
    simp [PyData.canLayAll0, PyData.canLay0, PyData.depthAll, PyData.depth, h1.1, h1.2, h2]
theorem tb_ok : ∀ x ∈ TB, PyData.strOk x = true := List.all_eq_true.mp (by decide +kernel : (TB.all fun x => PyData.strOk x) = true)
/-- a price or None -/
def PRS : List Int := [1, 2, 3, 7, 10 ^ 30, 10 ^ 30 - 1]
def okV (v : V) : Prop := v = .non ∨ ∃ i : Int, v = .int i ∧ i ∈ PRS
def encP (p : Str × V) : Key × V := (.inr p.1, p.2)
abbrev NR : List Str := ["pot", "question", "some", "tables", "found", "table", "parts"]
theorem scSomeP : FnScope NR ["pot", "question"] (defScope sSomeP) := ⟨rfl, rfl, rfl, by decide +kernel, rfl, by decide +kernel, by decide +kernel⟩
theorem val_none {ps : List (Str × V)} {x : Str} (h : x ∉ ps.map (·.1)) : valV (ps.map encP) (.inr x) = none := by
  induction ps with
  | nil => rfl
  | cons p r ih =>
    rw [List.map_cons, List.mem_cons, not_or] at h
    have e : decide ((encP p).1 = Sum.inr x) = false := decide_eq_false fun e => h.1 (Sum.inr.inj e).symm
    show ((encP p :: r.map encP).find? fun kv => decide (kv.1 = Sum.inr x)).map (·.2) = none
    rw [List.find?_cons_of_neg (by rw [e]; exact Bool.false_ne_true)]
    exact ih h.2
section
variable {P : Program} {w : World} {K : PySem.W.Frag} {mg : Str → Option Value} {base : Heap}
def spSomeP (K : PySem.W.Frag) : Sp := fun vs H Q _ => ∃ (a b q : Addr) (n : Int) (head : List Str) (ats : List Atm), vs = [.ref a, .ref q] ∧ PotN H a b n ∧ n + 100 < 2 ^ 40 ∧ QAt K H q head ats ∧ ats.length ≤ 6 ∧ (ats.map (·.1)).Nodup ∧ (∀ t ∈ ats, t.1 ∈ TB) ∧
  ∀ (H' : Hp) (d : Addr) (ps : List (Str × V)), But a H H' → H d = none → PotN H' a b (n + 40) → H' d = some (.dK (ps.map encP)) → (ps.map (·.1)).Perm (ats.map (·.1)) → (∀ p ∈ ps, okV p.2) → Q (.ref d) H'
theorem ok_someP {f fB fC : Addr} {fd fdB fdC : FuncData} (F : Fun K "_law_some_prices" "_law_some_prices" sSomeP f fd) (B : Blt mg)
    (FB : Fun K "_law_below" "_law_below" sBelow fB fdB) (bB : Binds K fdB ["pot", "bound"] []) (gB : mg "_law_below" = some (.ref fB)) (GB : FnOk P w K mg base CX0 2 fB fdB ["pot", "bound"] spBelow)
    (FC : Fun K "_law_pick" "_law_pick" sPick fC fdC) (bC : Binds K fdC ["pot", "items"] []) (gC : mg "_law_pick" = some (.ref fC)) (GC : FnOk P w K mg base CX0 3 fC fdC ["pot", "items"] (spPick K)) :
    FnOk P w K mg base CX0 4 f fd ["pot", "question"] (spSomeP K) := by
  refine F.ok scSomeP (fun vs H Q E h => ?_) (fun cdv A outer s H vs Q E hr h => ?_)
  · obtain ⟨a, b, q, n, head, ats, rfl, _⟩ := h
    rfl
  · obtain ⟨a, b, q, n, head, ats, rfl, pot, hn, hq, few, dist, inTB, fin⟩ := h
    have nd := scSomeP.nd
    have hr2 : Room 2 _ := hr.mono (by decide)
    have ln : ∀ n : Nat, n ≤ 1000 → n ≤ sizeLine := fun n h => Nat.le_of_lt (small1000 h)
    obtain ⟨tW, hW, fW⟩ : ∃ t : TS, PSs (cxOf CX0 P w K mg base NR "_law_some_prices" (defScope sSomeP) f cdv A outer s H E).nox ((defBody sSomeP).drop 1) t ∧
        ∀ (J : Hp) (sm : Addr) (vals : List V), But a H J → PotN J a b (n + 1) → J sm = some (.lst vals) → sm ≠ a → 0 < vals.length → vals.length ≤ 10 → (∀ v ∈ vals, okV v) →
          t { nx := fun _ H' => Q .non H', rt := Q } [some (.ref a), some (.ref q), some (.ref sm), none, none, none, none] J := by
      refine ⟨_, pss_cons (ps_par (i := 3) (j := 4) (by rfl) nd rfl rfl (by decide) rfl rfl (pa_cons (pe_lc (own := [("table", 5), ("parts", 6)]) (g := gTup K 2 (gCons (gName 5) (gCons (gName 6) gNil))) (tt := tYes) (te := tVar 5) (by rfl) nd (pi_tup (pe_ix ix_tup (pv 1) pe_int (fun _ _ => rfl))) (blkOk_by (own := [("table", 5), ("parts", 6)]) (N := NR) (sc := defScope sSomeP) (by decide +kernel))
          (fun _ _ _ _ _ => pg_tup (by rfl) (pgs_cons (pg_name (i := 5) nd rfl (.inl rfl)) (pgs_cons (pg_name (i := 6) nd rfl (.inl rfl)) pgs_nil))) (fun _ _ _ _ _ => pts_nil) (fun _ _ _ _ _ => pv 5)) (pa_cons pe_dnewK pa_nil)) (by rfl))
        (pss_cons (ps_while PassesOwn.never (pt_cmpR (op_neD hr.units) (pv 3) (pe_lst pa_nil) (nomark _))
          (pss_cons (ps_set (i := 5) nd rfl (.inl rfl) (pe_bm PySem.F.plainAttrs_list PySem.F.slot_list_pop PySem.F.type_list_pop mt_popAt (pv 3) (pa_cons (pe_call GB hr2 (by rfl) gB FB.kp bB .nil pass0 (pa_cons (pv 0) (pa_cons (pe_callB call_len_seq (by rfl) B.len PySem.boot_len (pa_cons (pv 3) pa_nil)) pa_nil))) pa_nil)))
          (pss_one (ps_asg (pe_call GC hr (by rfl) gC FC.kp bC .nil pass0 (pa_cons (pv 0) (pa_cons (pv 2) pa_nil))) (pg_sub (pv 4) (pv 5) (set_dict (hu_of hr)))))))
        (pss_one (ps_ret (pv 4)))), ?_⟩
      intro J sm vals but potJ hsm nsma h0 h10 okv
      obtain ⟨la, hla⟩ := pot.lst
      obtain ⟨hd, sa, vs, hq1, hq2, hq3, hq4⟩ := hq.but but hla
      have len4 := paired_len hq4
      refine ⟨_, rfl, q, _, 1, .ref sa, rfl, rfl, hq1, rfl, sa, rfl, ⟨_, hq3⟩, fun T nT => ?_⟩
      obtain ⟨Ta, Tb⟩ := potJ.free nT
      refine walk_tup (xs := vs) (fun i H7 => Same J H7 ∧ H7 T = some (.lst ((ats.take i).map fun t => V.str t.1))) ⟨same_new nT, upd_same⟩ (fun i H7 _ h => seqT h.1 hq3) ?_ ?_
      · rintro i x H7 hx ⟨sm7, hT⟩
        obtain ⟨t, ht, c, p, rfl, h1, h2⟩ := paired_get hq4 hx
        refine ⟨c, [.str t.1, .ref p], rfl, seqT sm7 h1, rfl, .str t.1, [.ref p], rfl, .ref p, [], rfl, rfl, rfl, ?_⟩
        refine tyes ?_
        refine ⟨_, rfl, _, hT, ?_, fun b' u e => ?_, ?_⟩
        · rw [List.length_map, List.length_take]
          exact small1000 (by omega)
        · rw [upd_ne (ne_of_none e nT)]
          exact sm7 _ _ e
        · rw [upd_same, List.take_add_one, ht, List.map_append]
          rfl
      rintro H7 ⟨sm7, hT⟩
      rw [len4, List.take_length] at hT
      have hT : H7 T = some (.lst ((ats.map (·.1)).map V.str)) := by rw [hT, List.map_map]; rfl
      refine fun F nF => ⟨_, _, rfl, ?_⟩
      obtain ⟨Fa, Fb⟩ := (potJ.same sm7).free nF
      have TF : T ≠ F := ne_of_none hT nF
      have sF := sm7.trans (same_new (o := .dK []) nF)
      have smT : sm ≠ T := ne_of_none hsm nT
      have smF : sm ≠ F := ne_of_none (sm7 _ _ hsm) nF
      have HT0 : H T = none := but.free Ta nT
      have HF0 : H F = none := but.free Fa (sm7.free nF)
      have lts : (ats.map (·.1)).length = ats.length := List.length_map ..
      refine ⟨fun m σ H1 => ∃ (ts : List Str) (ps : List (Str × V)) (x5 : Option V) (n1 : Int), σ = [some (.ref a), some (.ref q), some (.ref sm), some (.ref T), some (.ref F), x5, none] ∧ But a H H1 ∧ PotN H1 a b n1 ∧ n1 + 3 * ts.length ≤ n + 20 ∧ H1 sm = some (.lst vals) ∧ H1 T = some (.lst ((ts : List Str).map V.str)) ∧ H1 F = some (.dK (ps.map encP)) ∧ (ps.map (·.1) ++ ts).Perm (ats.map (·.1)) ∧ (∀ p ∈ ps, okV p.2) ∧ ts.length = m,
        ⟨ats.length, ats.map (·.1), [], none, n + 1, rfl, but.same sF, potJ.same sF, by omega, sF _ _ hsm, at_new hT nF, upd_same, List.Perm.refl _, by simp, lts⟩, fun m σ H1 hW => ?_⟩
      obtain ⟨ts, ps, x5, n1, rfl, b1, p1, hn1, hs1, ht1, hf1, perm, okp, rfl⟩ := hW
      have l6 : ps.length + ts.length = ats.length := by
        have := perm.length_eq
        rw [List.length_append, List.length_map, List.length_map] at this
        exact this
      have tsok : ∀ x ∈ ts, PyData.strOk x = true := fun x hx => by
        obtain ⟨t, ht, rfl⟩ := List.mem_map.mp (perm.mem_iff.mp (List.mem_append_right _ hx))
        exact tb_ok _ (inTB t ht)
      refine ⟨_, rfl, Nat.zero_le _, fun e ne => ?_⟩
      have s2 : Same H1 (upd H1 e (.lst [])) := same_new ne
      have he : upd H1 e (.lst []) e = some (.lst []) := upd_same
      have b2 := b1.same s2
      have p2 := p1.same s2
      have hs2 := s2 _ _ hs1
      have ht2 := s2 _ _ ht1
      have hf2 := s2 _ _ hf1
      generalize upd H1 e (.lst []) = H2 at he b2 p2 hs2 ht2 hf2 ⊢
      have g := strs_layO ts tsok
      refine ⟨.list (ts.map .str), .list [], .lst (SqL.of ht2) (strs_dp ts), .lst (SqL.of he) .nil, shaped_list g.1 (Nat.le_of_eq g.2) (by decide), by decide, _, rfl, ?_⟩
      rw [eqv_nil]
      cases ts with
      | nil =>
        refine iteF ⟨_, rfl, ?_⟩
        rw [List.append_nil] at perm
        exact fin H2 F ps b2 HF0 (p2.mono (by omega)) hf2 perm okp
      | cons t0 tr =>
        have lt : (t0 :: tr).length = tr.length + 1 := rfl
        have lt2 : (((t0 :: tr).map V.str).length : Nat) = tr.length + 1 := by rw [List.length_map]; rfl
        refine iteT ⟨fun σ' H' => ∃ (ts : List Str) (ps : List (Str × V)) (x5 : Option V) (n1 : Int), σ' = [some (.ref a), some (.ref q), some (.ref sm), some (.ref T), some (.ref F), x5, none] ∧ But a H H' ∧ PotN H' a b n1 ∧ n1 + 3 * ts.length ≤ n + 20 ∧ H' sm = some (.lst vals) ∧ H' T = some (.lst ((ts : List Str).map V.str)) ∧ H' F = some (.dK (ps.map encP)) ∧ (ps.map (·.1) ++ ts).Perm (ats.map (·.1)) ∧ (∀ p ∈ ps, okV p.2) ∧ ts.length = tr.length, fun σ' H' hN' => ⟨tr.length, by simp, hN'⟩, ?_⟩
        refine ⟨_, rfl, .inl ⟨rfl, _, SqL.of ht2⟩, _, rfl, _, rfl, T, _, rfl, .inl (SqL.of ht2), a, b, _, n1, rfl, p2, by omega, by rw [lt2]; omega, ?_, fun r J1 r0 r1 but3 pot3 => ?_⟩
        · have : (2 : Nat) ^ 8 ≤ 2 ^ 8000 := Nat.pow_le_pow_right (by decide) (by decide)
          rw [lt2]
          omega
        have r1' : r < (((t0 :: tr).length : Nat) : Int) := by rw [lt2] at r1; exact r1
        obtain ⟨i1, i2⟩ := idx_nat r0 r1'
        have ht3 := but3 _ _ Ta ht2
        refine ⟨T, _, r, r.toNat, .str (t0 :: tr)[r.toNat], rfl, rfl, ht3, by omega, by omega, by rw [List.length_map]; exact i1, by rw [List.getElem?_map, List.getElem?_eq_getElem i2]; rfl, ?_⟩
        rw [erase_map]
        have hx := List.getElem?_eq_getElem i2
        have pt := perm_at (t0 :: tr) r.toNat _ hx
        generalize (t0 :: tr)[r.toNat] = x at hx pt ⊢
        have le : ((t0 :: tr).eraseIdx r.toNat).length = tr.length := by
          rw [List.length_eraseIdx_of_lt i2]
          rfl
        generalize (t0 :: tr).eraseIdx r.toNat = us at pt le ⊢
        have perm2 : ((ps.map (·.1) ++ [x]) ++ us).Perm (ats.map (·.1)) := by
          rw [List.append_assoc]
          exact (List.Perm.append_left _ pt).trans perm
        have nx : x ∉ ps.map (·.1) := by
          have z := perm2.nodup_iff.mpr dist
          have z2 := (List.nodup_append.mp (List.nodup_append.mp z).1).2.2
          exact fun m => z2 x m x (List.mem_singleton.mpr rfl) rfl
        have b4 := (b2.trans but3).lift (o := .lst (us.map V.str)) HT0
        have p4 := pot3.put (o := .lst (us.map V.str)) Ta Tb
        have hs4 : L2.upd J1 T (.lst (us.map V.str)) sm = some (.lst vals) := by rw [upd_ne smT]; exact but3 _ _ nsma hs2
        have ht4 : L2.upd J1 T (.lst (us.map V.str)) T = some (.lst (us.map V.str)) := upd_same
        have hf4 : L2.upd J1 T (.lst (us.map V.str)) F = some (.dK (ps.map encP)) := by rw [upd_ne TF.symm]; exact but3 _ _ Fa hf2
        generalize L2.upd J1 T (.lst (us.map V.str)) = J4 at b4 p4 hs4 ht4 hf4 ⊢
        refine ⟨_, rfl, _, rfl, a, b, sm, n1 + 1, vals, rfl, p4, by omega, SqL.of hs4, nsma, h0, ?_, fun k v J5 hv but5 pot5 => ?_⟩
        · have : (2 : Nat) ^ 60 = 1152921504606846976 := by decide
          omega
        have hf5 := but5 _ _ Fa hf4
        refine ⟨_, rfl, _, rfl, F, _, rfl, DPut.k (k := .inr x) hf5 (by rw [List.length_map]; exact small1000 (by omega)), ?_⟩
        rw [putK_new v (val_none nx)]
        refine ⟨us, ps ++ [(x, v)], _, n1 + 1 + 1, rfl, (b4.trans but5).lift HF0, pot5.put Fa Fb, by rw [le]; rw [lt] at hn1; omega, by rw [upd_ne smF]; exact but5 _ _ nsma hs4, by rw [upd_ne TF]; exact but5 _ _ Ta ht4, by rw [upd_same, List.map_append]; rfl, by rw [List.map_append]; exact perm2, fun p hp => ?_, le⟩
        rcases List.mem_append.mp hp with hp | hp
        · exact okp p hp
        · rw [List.mem_singleton.mp hp]
          exact okv v (List.mem_of_getElem? hv)
    refine ⟨_, pss_cons (ps_set (i := 2) nd rfl (.inl rfl) (pe_call GC hr (by rfl) gC FC.kp bC .nil pass0 (pa_cons (pv 0) (pa_cons (pe_lst (pa_cons (pe_lst (pa_cons pe_int pa_nil)) (pa_cons (pe_lst (pa_cons pe_int (pa_cons pe_int (pa_cons pe_int pa_nil)))) (pa_cons (pe_lst (pa_cons pe_int (pa_cons pe_int (pa_cons pe_int (pa_cons pe_non pa_nil)))))
        (pa_cons (pe_lst (pa_cons pe_int (pa_cons pe_int (pa_cons pe_non pa_nil)))) (pa_cons (pe_lst (pa_cons (pe_op op_pow pe_int pe_int) (pa_cons (pe_op op_sub (pe_op op_pow pe_int pe_int) pe_int) (pa_cons pe_int pa_nil)))) pa_nil)))))) pa_nil)))) hW, ?_⟩
    refine ⟨_, rfl, ln 1 (by decide), fun c1 n1 => ⟨ln 3 (by decide), fun c2 n2 => ⟨ln 4 (by decide), fun c3 n3 => ⟨ln 3 (by decide), fun c4 n4 => ?_⟩⟩⟩⟩
    refine ⟨_, _, rfl, rfl, ⟨by decide, by decide, by decide⟩, _, _, rfl, rfl, ⟨by decide, by decide, by decide⟩, _, _, rfl, rfl, ln 3 (by decide), fun c5 n5 => ⟨ln 5 (by decide), fun c6 n6 => ?_⟩⟩
    have t1 := same_new (H := H) (o := .lst [.int 1]) n1
    have t2 := t1.trans (same_new (o := .lst [.int 1, .int 2, .int 3]) n2)
    have t3 := t2.trans (same_new (o := .lst [.int 1, .int 2, .int 3, .non]) n3)
    have t4 := t3.trans (same_new (o := .lst [.int 1, .int 1, .non]) n4)
    have t5 := t4.trans (same_new (o := .lst [.int (10 ^ (30 : Int).toNat), .int (10 ^ (30 : Int).toNat - 1), .int 7]) n5)
    have t6 := t5.trans (same_new (o := .lst [.ref c1, .ref c2, .ref c3, .ref c4, .ref c5]) n6)
    obtain ⟨a6, b6⟩ := (pot.same t5).free n6
    have x5 := at_new (u := .lst [.ref c1, .ref c2, .ref c3, .ref c4, .ref c5]) (upd_same (H := upd (upd (upd (upd H c1 (.lst [.int 1])) c2 (.lst [.int 1, .int 2, .int 3])) c3 (.lst [.int 1, .int 2, .int 3, .non])) c4 (.lst [.int 1, .int 1, .non])) (a := c5) (o := .lst [.int (10 ^ (30 : Int).toNat), .int (10 ^ (30 : Int).toNat - 1), .int 7])) n6
    have up5 := (same_new (o := .lst [.int (10 ^ (30 : Int).toNat), .int (10 ^ (30 : Int).toNat - 1), .int 7]) n5).trans (same_new (o := .lst [.ref c1, .ref c2, .ref c3, .ref c4, .ref c5]) n6)
    have up4 := (same_new (o := .lst [.int 1, .int 1, .non]) n4).trans up5
    have up3 := (same_new (o := .lst [.int 1, .int 2, .int 3, .non]) n3).trans up4
    have up2 := (same_new (o := .lst [.int 1, .int 2, .int 3]) n2).trans up3
    have x4 := up5 _ _ (upd_same (H := upd (upd (upd H c1 (.lst [.int 1])) c2 (.lst [.int 1, .int 2, .int 3])) c3 (.lst [.int 1, .int 2, .int 3, .non])) (a := c4) (o := .lst [.int 1, .int 1, .non]))
    have x3 := up4 _ _ (upd_same (H := upd (upd H c1 (.lst [.int 1])) c2 (.lst [.int 1, .int 2, .int 3])) (a := c3) (o := .lst [.int 1, .int 2, .int 3, .non]))
    have x2 := up3 _ _ (upd_same (H := upd H c1 (.lst [.int 1])) (a := c2) (o := .lst [.int 1, .int 2, .int 3]))
    have x1 := up2 _ _ (upd_same (H := H) (a := c1) (o := .lst [.int 1]))
    have f1 := pot.free n1
    have f2 := (pot.same t1).free n2
    have f3 := (pot.same t2).free n3
    have f4 := (pot.same t3).free n4
    have f5 := (pot.same t4).free n5
    refine ⟨a, b, c6, n, [.ref c1, .ref c2, .ref c3, .ref c4, .ref c5], rfl, pot.same t6, by omega, SqL.of upd_same, a6, (by show 0 < 5; decide), (by show 5 < 2 ^ 60; decide), fun i x H' hx but' pot' => ?_⟩
    have bH : But a H H' := (Same.but t6).trans but'
    have I : ∀ k : Int, k ∈ PRS → okV (.int k) := fun k h1 => .inr ⟨k, rfl, h1⟩
    have m := List.mem_of_getElem? hx
    simp only [List.mem_cons, List.not_mem_nil, or_false] at m
    rcases m with rfl | rfl | rfl | rfl | rfl
    · exact fW H' c1 _ bH pot' (but' _ _ f1.1 x1) f1.1 (by decide) (by decide) (by
        intro v hv
        simp only [List.mem_cons, List.not_mem_nil, or_false] at hv
        subst hv
        exact I 1 (by decide))
    · exact fW H' c2 _ bH pot' (but' _ _ f2.1 x2) f2.1 (by decide) (by decide) (by
        intro v hv
        simp only [List.mem_cons, List.not_mem_nil, or_false] at hv
        rcases hv with rfl | rfl | rfl <;> exact I _ (by decide))
    · exact fW H' c3 _ bH pot' (but' _ _ f3.1 x3) f3.1 (by decide) (by decide) (by
        intro v hv
        simp only [List.mem_cons, List.not_mem_nil, or_false] at hv
        rcases hv with rfl | rfl | rfl | rfl <;> first | exact I _ (by decide) | exact .inl rfl)
    · exact fW H' c4 _ bH pot' (but' _ _ f4.1 x4) f4.1 (by decide) (by decide) (by
        intro v hv
        simp only [List.mem_cons, List.not_mem_nil, or_false] at hv
        rcases hv with rfl | rfl | rfl <;> first | exact I _ (by decide) | exact .inl rfl)
    · exact fW H' c5 _ bH pot' (but' _ _ f5.1 x5) f5.1 (by decide) (by decide) (by
        intro v hv
        simp only [List.mem_cons, List.not_mem_nil, or_false] at hv
        rcases hv with rfl | rfl | rfl <;> exact I _ (by decide))
end
end Cut
set_option Elab.async false
set_option linter.all false
set_option maxRecDepth 100000
set_option maxHeartbeats 8000000
namespace Cut
open PySem PySem.Spec PyProof.Rows L2
theorem inV_str (x : Str) (ys : List Str) : inV (.str x) (ys.map V.str) = decide (x ∈ ys) := by
  unfold inV
  induction ys with
  | nil => simp
  | cons y r ih =>
    rw [List.map_cons, List.any_cons, ih]
    by_cases h : y = x
    · simp [eqV, h]
    · have h2 : ¬ x = y := fun e => h e.symm
      simp [eqV, h, h2]
theorem flat_strs' (ys : List Str) : (ys.map V.str).all flatV = true := by
  rw [List.all_map]
  exact List.all_eq_true.mpr fun _ _ => rfl
/-- the names of the i-th atom -/
def namesAt (ats : List Atm) (i : Nat) : List Str := ptx (ats.getD i ("", [])).2
/-- whether the i-th atom touches one of a group's -/
def touchB (ats : List Atm) (i : Nat) (g : List Nat) : Bool := g.any fun j => (namesAt ats j).any fun x => decide (x ∈ namesAt ats i)
abbrev NT : List Str := ["atoms", "place", "group", "names", "other", "name"]
theorem scTouches : FnScope NT ["atoms", "place", "group"] (defScope sTouches) := ⟨rfl, rfl, rfl, by decide +kernel, rfl, by decide +kernel, by decide +kernel⟩
def natV (j : Nat) : V := .int j
theorem ats_at {K : PySem.W.Frag} {H : Hp} {vs : List V} {ats : List Atm} (h : AtsAt K H vs ats) {i : Nat} (hi : i < ats.length) :
    ∃ a p, vs[i]? = some (.ref a) ∧ SqT K H a [.str (ats.getD i ("", [])).1, .ref p] ∧ SqT K H p ((ats.getD i ("", [])).2.map kV) := by
  have lv := paired_len h
  have hi2 : i < vs.length := by omega
  obtain ⟨t, ht, a, p, e, h1, h2⟩ := paired_get h (List.getElem?_eq_getElem hi2)
  have et : ats.getD i ("", []) = t := by rw [List.getD_eq_getElem?_getD, ht]; rfl
  rw [et]
  exact ⟨a, p, by rw [List.getElem?_eq_getElem hi2, e], h1, h2⟩
section
variable {P : Program} {w : World} {K : PySem.W.Frag} {mg : Str → Option Value} {base : Heap}
def spTouches (K : PySem.W.Frag) : Sp := fun vs H Q _ => ∃ (s g : Addr) (us : List V) (ats : List Atm) (i : Nat) (js : List Nat), vs = [.ref s, .int i, .ref g] ∧ SqT K H s us ∧ AtsAt K H us ats ∧ Few ats ∧ i < ats.length ∧ SqL K H g (js.map natV) ∧ (∀ j ∈ js, j < ats.length) ∧ js.length ≤ 6 ∧
  ∀ H', Same H H' → Q (.bl (touchB ats i js)) H'
theorem ok_touches {f fP : Addr} {fd fdP : FuncData} (F : Fun K "_touches" "_touches" sTouches f fd) (B : Blt mg) (mAny : mg "any" = none) (FP : Fun K "part_names" "part_names" sPartNames fP fdP) (bP : Binds K fdP ["parts"] []) (gP : mg "part_names" = some (.ref fP)) :
    FnOk P w K mg base CX0 2 f fd ["atoms", "place", "group"] (spTouches K) := by
  have GP : FnOk P w K mg base CX0 1 fP fdP ["parts"] (spPartNames K) := ok_partNames FP B
  refine F.ok scTouches (fun vs H Q E h => ?_) (fun cdv A outer s H vs Q E hr h => ?_)
  · obtain ⟨s, g, us, ats, i, js, rfl, _⟩ := h
    rfl
  · obtain ⟨sa, g, us, ats, i, js, rfl, hs, hats, few, hi, hg, hjs, l6, fin⟩ := h
    have nd := scTouches.nd
    refine ⟨_, pss_cons (ps_set (i := 3) nd rfl (.inr rfl) (pe_call GP hr (by rfl) gP FP.kp bP .nil pass0 (pa_cons (pe_ix ix_tup (pe_ix ix_tup (pv 0) (pv 1) (fun _ _ => rfl)) pe_int (fun _ _ => rfl)) pa_nil)))
      (pss_one (ps_ret (pe_callB (id := "any") (r := rAny K) (cr_any (by rfl)) (by rfl) mAny (by decide +kernel) (pa_cons
        (pe_lc2 (own := [("other", 4), ("name", 5)]) (vs1 := [5]) (g := gName 4) (g1 := gName 5) (tt := tYes) (tt1 := tYes) (wi1 := iList K (tCall (spPartNames K) [] E0 (tCons (tOp (rIxT K) (tOp (rIxT K) (tVar 0) (tVar 4)) (tC (.int 1))) tNil))) (te := tOp (rIn K false) (tVar 5) (tVar 3)) (by rfl) nd
          (pi_list (pv 2)) (blkOk_by (own := [("other", 4), ("name", 5)]) (N := NT) (sc := defScope sTouches) (by decide +kernel)) (by decide)
          (fun _ _ _ _ _ => pg_name (i := 4) nd rfl (Or.inl rfl)) (fun _ _ _ _ _ => pts_nil)
          (fun _ _ _ _ _ => pi_list (pe_call GP hr (by rfl) gP FP.kp bP .nil pass0 (pa_cons (pe_ix ix_tup (pe_ix ix_tup (pv 0) (pv 4) (fun _ _ => rfl)) pe_int (fun _ _ => rfl)) pa_nil)))
          (fun _ _ _ _ _ => pg_name (i := 5) nd rfl (Or.inl rfl)) (fun _ _ _ _ _ => pts_nil) (fun _ _ _ _ _ => pe_cmpR op_in_seq (pv 5) (pv 3) (by rfl))) pa_nil)))), ?_⟩
    obtain ⟨a, p, g1, g2, g3⟩ := ats_at hats hi
    have hm : ats.getD i ("", []) ∈ ats := by
      rw [List.getD_eq_getElem?_getD, List.getElem?_eq_getElem hi]
      exact List.getElem_mem hi
    have few6 : ∀ j, j < ats.length → ((ats.getD j ("", [])).2).length ≤ 6 := fun j hj => few.parts _ (by
      rw [List.getD_eq_getElem?_getD, List.getElem?_eq_getElem hj]
      exact List.getElem_mem hj)
    refine ⟨_, rfl, _, rfl, sa, us, i, .ref a, rfl, rfl, hs, atI_nat g1, a, _, 1, .ref p, rfl, rfl, g2, rfl, p, _, rfl, g3, by have := few6 i hi; omega, fun H1 l s1 n1 hl => ?_⟩
    refine ⟨_, rfl, g, rfl, ⟨_, s1.seq hg⟩, fun D nD => ?_⟩
    have nDl : l ≠ D := ne_of_none hl nD
    refine walk_list (xs := js.map natV) (fun k H7 => Same H1 H7 ∧ H7 D = some (.lst (((js.take k).flatMap fun j => (namesAt ats j).map fun x => decide (x ∈ namesAt ats i)).map V.bl))) ⟨same_new nD, upd_same⟩ (fun k H7 _ h => h.1.seq (s1.seq hg)) ?_ ?_
    · rintro k x H7 hx ⟨sm, hD⟩
      rw [List.getElem?_map] at hx
      obtain ⟨j, hj, rfl⟩ := Option.map_eq_some_iff.mp hx
      have hk : k < js.length := (List.getElem?_eq_some_iff.mp hj).1
      have hj2 := hjs j (List.mem_of_getElem? hj)
      obtain ⟨c, r, k1, k2, k3⟩ := ats_at hats hj2
      have sH := s1.trans sm
      refine ⟨rfl, ?_⟩
      refine tyes ?_
      refine ⟨_, rfl, _, rfl, sa, us, j, .ref c, rfl, rfl, seqT sH hs, atI_nat k1, c, _, 1, .ref r, rfl, rfl, seqT sH k2, rfl, r, _, rfl, seqT sH k3, by have := few6 j hj2; omega, fun H8 m s8 n8 hm8 => ?_⟩
      refine ⟨m, rfl, ⟨_, SqL.of hm8⟩, ?_⟩
      have Dm : D ≠ m := ne_of_none hD n8
      have lk : (((js.take k).flatMap fun j => (namesAt ats j).map fun x => decide (x ∈ namesAt ats i))).length ≤ 36 := by
        have : ∀ l : List Nat, (∀ j ∈ l, j < ats.length) → ((l.flatMap fun j => (namesAt ats j).map fun x => decide (x ∈ namesAt ats i))).length ≤ 6 * l.length := fun l => by
          induction l with
          | nil => intro _; simp
          | cons y r ih =>
            intro h
            rw [List.flatMap_cons, List.length_append, List.length_map, List.length_cons]
            have q1 := ih fun z hz => h z (List.mem_cons_of_mem _ hz)
            have q2 : (namesAt ats y).length ≤ 6 := Nat.le_trans (ptx_len _) (few6 y (h y List.mem_cons_self))
            omega
        have q := this (js.take k) fun j hj => hjs j (List.mem_of_mem_take hj)
        rw [List.length_take] at q
        omega
      have q6 : (namesAt ats j).length ≤ 6 := Nat.le_trans (ptx_len _) (few6 j hj2)
      refine walk_list (xs := (namesAt ats j).map V.str) (fun d H9 => Same H1 H9 ∧ H9 m = some (.lst ((namesAt ats j).map V.str)) ∧ H9 D = some (.lst ((((js.take k).flatMap fun j => (namesAt ats j).map fun x => decide (x ∈ namesAt ats i)) ++ ((namesAt ats j).take d).map fun x => decide (x ∈ namesAt ats i)).map V.bl))) ⟨sm.trans s8, hm8, by rw [List.take_zero, List.map_nil, List.append_nil]; exact s8 _ _ hD⟩ (fun d H9 _ h => SqL.of h.2.1) ?_ ?_
      · rintro d y H9 hy ⟨sm9, hm9, hD9⟩
        rw [List.getElem?_map] at hy
        obtain ⟨z, hz, rfl⟩ := Option.map_eq_some_iff.mp hy
        have hd : d < (namesAt ats j).length := (List.getElem?_eq_some_iff.mp hz).1
        refine ⟨rfl, ?_⟩
        refine tyes ?_
        have hl9 := sm9 _ _ hl
        refine ⟨_, rfl, _, rfl, l, _, rfl, .inl (SqL.of hl9), rfl, flat_strs' _, _, hD9, ?_, fun b o e => ?_, ?_, ?_⟩
        · rw [List.length_map, List.length_append, List.length_map, List.length_take]
          exact small1000 (by omega)
        · rw [upd_ne (ne_of_none e nD)]
          exact sm9 _ _ e
        · rw [upd_ne Dm.symm]
          exact hm9
        · rw [upd_same, List.take_add_one, hz, inV_str]
          simp [namesAt]
      · rintro H9 ⟨sm9, hm9, hD9⟩
        rw [List.length_map, List.take_length] at hD9
        refine ⟨sm9, ?_⟩
        rw [hD9, List.take_add_one, hj, List.flatMap_append]
        simp
    · rintro H7 ⟨sm, hD⟩
      rw [List.length_map, List.take_length] at hD
      refine ⟨D, _, rfl, SqL.of hD, ?_⟩
      have e : ((js.flatMap fun j => (namesAt ats j).map fun x => decide (x ∈ namesAt ats i))).any id = touchB ats i js := by
        unfold touchB
        rw [List.any_flatMap]
        congr 1
        funext j
        rw [List.any_map]
        rfl
      rw [e]
      exact fin H7 (s1.trans sm)
end
end Cut
set_option Elab.async false
set_option linter.all false
set_option maxRecDepth 100000
set_option maxHeartbeats 8000000
namespace Cut
open PySem PySem.Spec PyProof.Rows L2
abbrev NPc : List Str := ["question", "atoms", "groups", "place", "touched", "group", "apart", "joined", "other", "at"]
theorem scPieces : FnScope NPc ["question"] (defScope sPieces) := ⟨rfl, rfl, rfl, by decide +kernel, rfl, by decide +kernel, by decide +kernel⟩
def argOf : Stmt → Expr
  | .Return (some (.Call _ (a :: _) _ _)) _ => a
  | _ => .Constant .none 0 ⟨0, 0, 0, 0⟩
abbrev scPO : Scope := scopeOf (argOf ((defBody sPieces).getD 3 (.Pass ⟨0, 0, 0, 0⟩)))
section
variable {P : Program} {w : World} {K : PySem.W.Frag} {mg : Str → Option Value} {base : Heap}
theorem pieces_form {f fT : Addr} {fd fdT : FuncData} (F : Fun K "pieces" "pieces" sPieces f fd) (B : Blt mg) (FT : Fun K "_touches" "_touches" sTouches fT fdT) (bT : Binds K fdT ["atoms", "place", "group"] []) (gT : mg "_touches" = some (.ref fT))
    (GT : FnOk P w K mg base CX0 2 fT fdT ["atoms", "place", "group"] (spTouches K)) {cdv : Value} {A : Around} {outer : List Env} {s : Shared} {H : Hp} {E : XK} (hr : Room 2 (A.deeper (envOfC "pieces" (defScope sPieces) s.heap.objs.size f cdv))) :
    ∃ t : TS, PSs (cxOf CX0 P w K mg base NPc "pieces" (defScope sPieces) f cdv A outer s H E).nox (defBody sPieces) t ∧ True := by
  have nd := scPieces.nd
  have hu : (cxOf CX0 P w K mg base NPc "pieces" (defScope sPieces) f cdv A outer s H E).nox.A.units + 64 < cLine := by
    have := hr.un
    show (A.deeper _).units + 64 < cLine
    omega
  have hu1 : (cxOf CX0 P w K mg base NPc "pieces" (defScope sPieces) f cdv A outer s H E).nox.A.units + 65 < cLine := by
    have := hr.un
    show (A.deeper _).units + 65 < cLine
    omega
  refine ⟨_, pss_cons (ps_set (i := 1) nd rfl (.inr rfl) (pe_ix ix_tup (pv 0) pe_int (fun _ _ => rfl)))
    (pss_cons (ps_set (i := 2) nd rfl (.inl rfl) (pe_lst pa_nil))
    (pss_cons (ps_for PassesOwn.never rfl (pi_range1 (by rfl) B.range (pa_cons (pe_callB call_len_seq (by rfl) B.len PySem.boot_len (pa_cons (pv 1) pa_nil)) pa_nil)) (pg_name (i := 3) nd rfl (.inr rfl))
      (pss_cons (ps_set (i := 4) nd rfl (.inr rfl) (pe_lc (own := [("group", 5)]) (g := gName 5) (tt := tB (tCall (spTouches K) [] E0 (tCons (tVar 1) (tCons (tVar 3) (tCons (tVar 5) tNil))))) (by rfl) nd (pi_list (pv 2)) (blkOk_by (own := [("group", 5)]) (N := NPc) (sc := defScope sPieces) (by decide +kernel))
          (fun _ _ _ _ _ => pg_name (i := 5) nd rfl (Or.inl rfl)) (fun _ _ _ _ _ => pts_one (pt_val (pe_call GT hr (by rfl) gT FT.kp bT .nil pass0 (pa_cons (pv 1) (pa_cons (pv 3) (pa_cons (pv 5) pa_nil)))))) (fun _ _ _ _ _ => pv 5)))
      (pss_cons (ps_setLc (i := 6) (own := [("group", 5)]) (g := gName 5) (tt := tTest (tOp (rNotInD K) (tVar 5) (tVar 4))) (by rfl) nd rfl rfl (sw_true rfl rfl rfl (by decide +kernel)) (pi_list (pv 2)) (blkOk_by (own := [("group", 5)]) (N := NPc) (sc := defScope sPieces) (by decide +kernel))
          (fun _ _ _ _ _ => pg_name (i := 5) nd rfl (Or.inl rfl)) (fun _ _ _ _ _ => pts_one (pt_cmpR (op_notInD hu1) (pv 5) (pv 4) (by rfl))) (fun _ _ _ _ _ => pv 5))
      (pss_cons (ps_set (i := 7) nd rfl (.inl rfl) (pe_callB (id := "sorted") (r := rSortedI K) cr_sortedI (by rfl) B.sorted (by decide +kernel) (pa_cons (pe_op op_cat
          (pe_lc2 (own := [("group", 5), ("other", 8)]) (vs1 := [8]) (g := gName 5) (g1 := gName 8) (tt := tYes) (tt1 := tYes) (wi1 := iList K (tVar 5)) (te := tVar 8) (by rfl) nd
            (pi_list (pv 4)) (blkOk_by (own := [("group", 5), ("other", 8)]) (N := NPc) (sc := defScope sPieces) (by decide +kernel)) (by decide)
            (fun _ _ _ _ _ => pg_name (i := 5) nd rfl (Or.inl rfl)) (fun _ _ _ _ _ => pts_nil) (fun _ _ _ _ _ => pi_list (pv 5)) (fun _ _ _ _ _ => pg_name (i := 8) nd rfl (Or.inl rfl)) (fun _ _ _ _ _ => pts_nil) (fun _ _ _ _ _ => pv 8))
          (pe_lst (pa_cons (pv 3) pa_nil))) pa_nil)))
      (pss_one (ps_set (i := 2) nd rfl (.inl rfl) (pe_op op_cat (pv 6) (pe_lst (pa_cons (pv 7) pa_nil)))))))))
    (pss_one (ps_ret (pe_tupleOf (by rfl) B.tuple
      (pe_lc (own := [("group", 5)]) (g := gName 5) (tt := tYes) (te := tThen (tLc (iList K (tVar 5)) (gName 9) tYes (tOp (rIxT K) (tOp (rIxT K) (tVar 1) (tVar 9)) (tC (.int 0))) [9]) (kTup K)) (by rfl) nd
        (pi_list (pe_callB (id := "sorted") (r := rSortD K) (cr_sortD hu) (by rfl) B.sorted (by decide +kernel) (pa_cons (pv 2) pa_nil))) (blkOk_by (own := [("group", 5)]) (N := NPc) (sc := defScope sPieces) (by decide +kernel))
        (fun _ _ _ _ _ => pg_name (i := 5) nd rfl (Or.inl rfl)) (fun _ _ _ _ _ => pts_nil)
        (fun _ _ _ _ _ => pe_tupleOf (by rfl) B.tuple (pe_lc (own := [("at", 9)]) (g := gName 9) (by rfl) nd (pi_list (pv 5)) (blkOk_by (own := [("at", 9)]) (N := NPc) (sc := relS scPO (defScope sPieces)) (by decide +kernel))
          (fun _ _ _ _ _ => pg_name (i := 9) nd rfl (Or.inl rfl)) (fun _ _ _ _ _ => pts_nil) (fun _ _ _ _ _ => pe_ix ix_tup (pe_ix ix_tup (pv 1) (pv 9) (fun _ _ => rfl)) pe_int (fun _ _ => rfl)))))))))), trivial⟩
end
end Cut
set_option Elab.async false
set_option linter.all false
set_option maxRecDepth 100000
set_option maxHeartbeats 4000000
namespace Cut
open PySem PySem.Spec PyProof.Rows L2
def leN (a b : Nat) : Bool := decide (a ≤ b)
def sortN (xs : List Nat) : List Nat := xs.mergeSort leN
def stepN (ats : List Atm) (gs : List (List Nat)) (i : Nat) : List (List Nat) := gs.filter (fun g => !touchB ats i g) ++ [sortN ((gs.filter (touchB ats i)).flatten ++ [i])]
def groupsN (ats : List Atm) (i : Nat) : List (List Nat) := (List.range i).foldl (stepN ats) []
theorem groupsN_succ (ats : List Atm) (i : Nat) : groupsN ats (i + 1) = stepN ats (groupsN ats i) i := by
  unfold groupsN
  rw [List.range_succ, List.foldl_append]
  rfl
theorem sortN_perm (xs : List Nat) : (sortN xs).Perm xs := List.mergeSort_perm _ _
theorem sortN_sorted (xs : List Nat) : (sortN xs).Pairwise (· ≤ ·) := by
  have h := List.pairwise_mergeSort (le := leN) (fun a b c h1 h2 => decide_eq_true (Nat.le_trans (of_decide_eq_true h1) (of_decide_eq_true h2))) (fun a b => by
    rcases Nat.le_total a b with h | h
    · rw [show leN a b = true from decide_eq_true h]; rfl
    · rw [show leN b a = true from decide_eq_true h, Bool.or_true]) xs
  exact h.imp fun h => of_decide_eq_true h
/-- the one ascending order of such ints -/
theorem sortN_ints {xs : List Nat} {ns : List Int} (p : ns.Perm (xs.map fun j : Nat => (j : Int))) (s : ns.Pairwise (· ≤ ·)) : ns = (sortN xs).map fun j : Nat => (j : Int) := by
  refine List.Perm.eq_of_pairwise (le := fun a b : Int => a ≤ b) (fun a b _ _ h1 h2 => Int.le_antisymm h1 h2) s ?_ (p.trans ((sortN_perm xs).symm.map _))
  rw [List.pairwise_map]
  exact (sortN_sorted xs).imp fun h => Int.ofNat_le.mpr h
structure GOk (i : Nat) (gs : List (List Nat)) : Prop where
  flat : gs.flatten.Perm (List.range i)
  ne : ∀ g ∈ gs, g ≠ []
theorem flat_len : ∀ gs : List (List Nat), (∀ g ∈ gs, g ≠ []) → gs.length ≤ gs.flatten.length
  | [], _ => Nat.le_refl _
  | g :: r, h => by
    have h1 := flat_len r fun x hx => h x (List.mem_cons_of_mem _ hx)
    have h2 : 0 < g.length := List.length_pos_iff.mpr (h g List.mem_cons_self)
    rw [List.flatten_cons, List.length_append, List.length_cons]
    omega
theorem mem_flat_len {g : List Nat} : ∀ {gs : List (List Nat)}, g ∈ gs → g.length ≤ gs.flatten.length
  | x :: r, h => by
    rw [List.flatten_cons, List.length_append]
    rcases List.mem_cons.mp h with rfl | h
    · omega
    · have := mem_flat_len h
      omega
theorem GOk.many {i : Nat} {gs : List (List Nat)} (h : GOk i gs) : gs.length ≤ i := by
  have h1 := flat_len gs h.ne
  rw [h.flat.length_eq, List.length_range] at h1
  exact h1
theorem GOk.size {i : Nat} {gs : List (List Nat)} (h : GOk i gs) {g : List Nat} (hg : g ∈ gs) : g.length ≤ i := by
  have h1 := mem_flat_len hg
  rw [h.flat.length_eq, List.length_range] at h1
  exact h1
theorem GOk.lt {i : Nat} {gs : List (List Nat)} (h : GOk i gs) {g : List Nat} (hg : g ∈ gs) {j : Nat} (hj : j ∈ g) : j < i :=
  List.mem_range.mp (h.flat.mem_iff.mp (List.mem_flatten.mpr ⟨g, hg, hj⟩))
theorem filter_parts {α : Type} (p : α → Bool) : ∀ l : List α, (l.filter (fun x => !p x) ++ l.filter p).Perm l
  | [] => List.Perm.refl _
  | x :: l => by
    have ih := filter_parts p l
    cases h : p x with
    | true =>
      rw [List.filter_cons_of_neg (by simp [h]), List.filter_cons_of_pos h]
      exact List.perm_middle.trans (ih.cons x)
    | false =>
      rw [List.filter_cons_of_pos (by simp [h]), List.filter_cons_of_neg (by simp [h])]
      exact ih.cons x
theorem GOk.step {ats : List Atm} {i : Nat} {gs : List (List Nat)} (h : GOk i gs) : GOk (i + 1) (stepN ats gs i) := by
  refine ⟨?_, fun g hg => ?_⟩
  · unfold stepN
    rw [List.flatten_append, List.flatten_cons, List.flatten_nil, List.append_nil]
    refine (List.Perm.append_left _ (sortN_perm _)).trans ?_
    rw [← List.append_assoc, ← List.flatten_append, List.range_succ]
    exact ((filter_parts (touchB ats i) gs).flatten.trans h.flat).append_right _
  · rcases List.mem_append.mp hg with hg | hg
    · exact h.ne g (List.mem_filter.mp hg).1
    · rw [List.mem_singleton.mp hg]
      intro e
      have := (sortN_perm ((gs.filter (touchB ats i)).flatten ++ [i])).length_eq
      rw [e] at this
      simp at this
theorem groupsN_ok (ats : List Atm) : ∀ i, GOk i (groupsN ats i)
  | 0 => ⟨List.Perm.refl _, fun g h => by simp [groupsN] at h⟩
  | i + 1 => by
    rw [groupsN_succ]
    exact (groupsN_ok ats i).step
/-! groups as data -/
def gD (g : List Nat) : PyData := .list (g.map fun j : Nat => .int (j : Int))
theorem eqvAll_nats : ∀ a b : List Nat, PyData.eqvAll (a.map fun j : Nat => PyData.int (j : Int)) (b.map fun j : Nat => PyData.int (j : Int)) = decide (a = b)
  | [], [] => by simp [PyData.eqvAll]
  | [], _ :: _ => by simp [PyData.eqvAll]
  | _ :: _, [] => by simp [PyData.eqvAll]
  | x :: a, y :: b => by
    rw [List.map_cons, List.map_cons, PyData.eqvAll, eqvAll_nats a b]
    by_cases h : x = y
    · subst h
      simp [PyData.eqv]
    · have h2 : ¬ (x : Int) = (y : Int) := fun e => h (by omega)
      simp [PyData.eqv, h, h2]
theorem eqv_gD (a b : List Nat) : PyData.eqv (gD a) (gD b) = decide (a = b) := by
  unfold gD
  rw [PyData.eqv]
  exact eqvAll_nats a b
theorem nats_int (g : List Nat) : g.map (fun j : Nat => PyData.int (j : Int)) = (g.map fun j : Nat => (j : Int)).map PyData.int := by
  rw [List.map_map]
  rfl
theorem natV_int (g : List Nat) : g.map natV = (g.map fun j : Nat => (j : Int)).map V.int := by
  rw [List.map_map]
  rfl
theorem gD_dp {K : PySem.W.Frag} {H : Hp} {p : Addr} {g : List Nat} (h : H p = some (.lst (g.map natV))) : Dp K H (.ref p) (gD g) := by
  unfold gD
  rw [nats_int]
  exact .lst (SqL.of (by rw [← natV_int]; exact h)) (ints_dp _)
theorem gD_depth (g : List Nat) : (gD g).depth ≤ 2 := by
  unfold gD
  have h := ints_depth (g.map fun j : Nat => (j : Int))
  rw [nats_int]
  simp only [PyData.depth]
  omega
theorem gD_shaped (g : List Nat) : SeqAt.shaped (gD g) = true := by
  unfold gD
  rw [nats_int]
  exact ints_shaped _
theorem gDs_lay : ∀ gs : List (List Nat), PyData.canLayAll0 (gs.map gD) = true ∧ PyData.depthAll (gs.map gD) ≤ 3
  | [] => by simp [PyData.canLayAll0, PyData.depthAll]
  | g :: r => by
    have h1 := gDs_lay r
    have h2 := gD_depth g
    have h3 := (Bool.and_eq_true_iff.mp (gD_shaped g)).1
    rw [List.map_cons]
    simp only [PyData.canLayAll0, PyData.depthAll, h3, h1.1, Bool.and_self, true_and]
    omega
theorem gDs_shaped (gs : List (List Nat)) : SeqAt.shaped (.list (gs.map gD)) = true := shaped_list (gDs_lay gs).1 (gDs_lay gs).2 (by decide)
def GrpAt (H : Hp) (v : V) (g : List Nat) : Prop := ∃ p, v = .ref p ∧ H p = some (.lst (g.map natV))
theorem GrpAt.same {H H' : Hp} {v : V} {g : List Nat} (x : GrpAt H v g) (e : Same H H') : GrpAt H' v g := let ⟨p, h1, h2⟩ := x; ⟨p, h1, e _ _ h2⟩
theorem grp_dp {K : PySem.W.Frag} {H : Hp} : ∀ {vs : List V} {gs : List (List Nat)}, Paired (GrpAt H) vs gs → DpAll K H vs (gs.map gD)
  | _, _, .nil => .nil
  | _, _, .cons ⟨p, e, h⟩ r => .cons (by rw [e]; exact gD_dp h) (grp_dp r)
/-- "not in touched" is "not touching" -/
theorem not_in_touched (p : List Nat → Bool) (gs : List (List Nat)) (g : List Nat) (hg : g ∈ gs) : (!((gs.filter p).map gD).any fun z => PyData.eqv z (gD g)) = !p g := by
  congr 1
  rw [List.any_map]
  cases h : p g with
  | true =>
    refine List.any_eq_true.mpr ⟨g, List.mem_filter.mpr ⟨hg, h⟩, ?_⟩
    show PyData.eqv (gD g) (gD g) = true
    rw [eqv_gD]
    simp
  | false =>
    refine List.any_eq_false.mpr fun z hz e => ?_
    have e2 : PyData.eqv (gD z) (gD g) = true := e
    rw [eqv_gD] at e2
    have e3 := of_decide_eq_true e2
    have := (List.mem_filter.mp hz).2
    rw [e3, h] at this
    cases this
theorem filter_take {α : Type} (p : α → Bool) (l : List α) (k : Nat) (x : α) (h : l[k]? = some x) : (l.take (k + 1)).filter p = (l.take k).filter p ++ (if p x then [x] else []) := by
  rw [List.take_add_one, h, List.filter_append]
  congr 1
  show ([x] : List α).filter p = _
  cases hp : p x with
  | true => simp [List.filter, hp]
  | false => simp [List.filter, hp]
end Cut
set_option Elab.async false
set_option linter.all false
set_option maxRecDepth 100000
set_option maxHeartbeats 16000000
namespace Cut
open PySem PySem.Spec PyProof.Rows L2
def leG (a b : List Nat) : Bool := byData (.non, gD a) (.non, gD b)
def tabAt (ats : List Atm) (i : Nat) : Str := (ats.getD i ("", [])).1
def piecesN (ats : List Atm) : List (List Str) := ((groupsN ats ats.length).mergeSort leG).map fun g => g.map (tabAt ats)
def TxtAt (K : PySem.W.Frag) (H : Hp) (v : V) (xs : List Str) : Prop := ∃ a, v = .ref a ∧ SqT K H a (xs.map V.str)
theorem TxtAt.same {K : PySem.W.Frag} {H H' : Hp} {v : V} {xs : List Str} (x : TxtAt K H v xs) (e : Same H H') : TxtAt K H' v xs := let ⟨a, h1, h2⟩ := x; ⟨a, h1, seqT e h2⟩
theorem paired_zip {α β : Type} {F : α → β → Prop} : ∀ {xs : List α} {ys : List β}, Paired F xs ys → (xs.zip ys).map (·.1) = xs ∧ (xs.zip ys).map (·.2) = ys ∧ ∀ p ∈ xs.zip ys, F p.1 p.2
  | _, _, .nil => ⟨rfl, rfl, fun _ h => by simp at h⟩
  | _, _, .cons h r => by
    obtain ⟨h1, h2, h3⟩ := paired_zip r
    refine ⟨by rw [List.zip_cons_cons, List.map_cons, h1], by rw [List.zip_cons_cons, List.map_cons, h2], fun p hp => ?_⟩
    rcases List.mem_cons.mp hp with rfl | hp
    · exact h
    · exact h3 p hp
theorem zip_paired {α β : Type} {F : α → β → Prop} : ∀ (M : List (α × β)), (∀ p ∈ M, F p.1 p.2) → Paired F (M.map (·.1)) (M.map (·.2))
  | [], _ => .nil
  | p :: r, h => .cons (h p List.mem_cons_self) (zip_paired r fun q hq => h q (List.mem_cons_of_mem _ hq))
section
variable {P : Program} {w : World} {K : PySem.W.Frag} {mg : Str → Option Value} {base : Heap}
def spPieces (K : PySem.W.Frag) : Sp := fun vs H Q _ => ∃ (q : Addr) (head : List Str) (ats : List Atm), vs = [.ref q] ∧ QAt K H q head ats ∧ Few ats ∧
  ∀ (H' : Hp) (r : Addr) (rs : List V), Same H H' → H r = none → H' r = some (.tup rs) → Paired (TxtAt K H') rs (piecesN ats) → Q (.ref r) H'
theorem ok_pieces {f fT : Addr} {fd fdT : FuncData} (F : Fun K "pieces" "pieces" sPieces f fd) (B : Blt mg) (FT : Fun K "_touches" "_touches" sTouches fT fdT) (bT : Binds K fdT ["atoms", "place", "group"] []) (gT : mg "_touches" = some (.ref fT))
    (GT : FnOk P w K mg base CX0 2 fT fdT ["atoms", "place", "group"] (spTouches K)) : FnOk P w K mg base CX0 3 f fd ["question"] (spPieces K) := by
  refine F.ok scPieces (fun vs H Q E h => ?_) (fun cdv A outer s H vs Q E hr h => ?_)
  · obtain ⟨q, head, ats, rfl, _⟩ := h
    rfl
  · obtain ⟨q, head, ats, rfl, hq, few, fin⟩ := h
    obtain ⟨hd, sa, us, hq1, hq2, hq3, hq4⟩ := hq
    have len4 := paired_len hq4
    have nd := scPieces.nd
    have ln : ∀ n : Nat, n ≤ 1000 → n ≤ sizeLine := fun n h => Nat.le_of_lt (small1000 h)
    have hu : (cxOf CX0 P w K mg base NPc "pieces" (defScope sPieces) f cdv A outer s H E).nox.A.units + 64 < cLine := by
      have := hr.un
      show (A.deeper _).units + 64 < cLine
      omega
    have hu1 : (cxOf CX0 P w K mg base NPc "pieces" (defScope sPieces) f cdv A outer s H E).nox.A.units + 65 < cLine := by
      have := hr.un
      show (A.deeper _).units + 65 < cLine
      omega
    refine ⟨_, pss_cons (ps_set (i := 1) nd rfl (.inr rfl) (pe_ix ix_tup (pv 0) pe_int (fun _ _ => rfl)))
      (pss_cons (ps_set (i := 2) nd rfl (.inl rfl) (pe_lst pa_nil))
      (pss_cons (ps_for PassesOwn.never rfl (pi_range1 (by rfl) B.range (pa_cons (pe_callB call_len_seq (by rfl) B.len PySem.boot_len (pa_cons (pv 1) pa_nil)) pa_nil)) (pg_name (i := 3) nd rfl (.inr rfl))
        (pss_cons (ps_set (i := 4) nd rfl (.inr rfl) (pe_lc (own := [("group", 5)]) (g := gName 5) (tt := tB (tCall (spTouches K) [] E0 (tCons (tVar 1) (tCons (tVar 3) (tCons (tVar 5) tNil))))) (by rfl) nd (pi_list (pv 2)) (blkOk_by (own := [("group", 5)]) (N := NPc) (sc := defScope sPieces) (by decide +kernel))
            (fun _ _ _ _ _ => pg_name (i := 5) nd rfl (Or.inl rfl)) (fun _ _ _ _ _ => pts_one (pt_val (pe_call GT hr (by rfl) gT FT.kp bT .nil pass0 (pa_cons (pv 1) (pa_cons (pv 3) (pa_cons (pv 5) pa_nil)))))) (fun _ _ _ _ _ => pv 5)))
        (pss_cons (ps_setLc (i := 6) (own := [("group", 5)]) (g := gName 5) (tt := tTest (tOp (rNotInD K) (tVar 5) (tVar 4))) (by rfl) nd rfl rfl (sw_true rfl rfl rfl (by decide +kernel)) (pi_list (pv 2)) (blkOk_by (own := [("group", 5)]) (N := NPc) (sc := defScope sPieces) (by decide +kernel))
            (fun _ _ _ _ _ => pg_name (i := 5) nd rfl (Or.inl rfl)) (fun _ _ _ _ _ => pts_one (pt_cmpR (op_notInD hu1) (pv 5) (pv 4) (by rfl))) (fun _ _ _ _ _ => pv 5))
        (pss_cons (ps_set (i := 7) nd rfl (.inl rfl) (pe_callB (id := "sorted") (r := rSortedI K) cr_sortedI (by rfl) B.sorted (by decide +kernel) (pa_cons (pe_op op_cat
            (pe_lc2 (own := [("group", 5), ("other", 8)]) (vs1 := [8]) (g := gName 5) (g1 := gName 8) (tt := tYes) (tt1 := tYes) (wi1 := iList K (tVar 5)) (te := tVar 8) (by rfl) nd
              (pi_list (pv 4)) (blkOk_by (own := [("group", 5), ("other", 8)]) (N := NPc) (sc := defScope sPieces) (by decide +kernel)) (by decide)
              (fun _ _ _ _ _ => pg_name (i := 5) nd rfl (Or.inl rfl)) (fun _ _ _ _ _ => pts_nil) (fun _ _ _ _ _ => pi_list (pv 5)) (fun _ _ _ _ _ => pg_name (i := 8) nd rfl (Or.inl rfl)) (fun _ _ _ _ _ => pts_nil) (fun _ _ _ _ _ => pv 8))
            (pe_lst (pa_cons (pv 3) pa_nil))) pa_nil)))
        (pss_one (ps_set (i := 2) nd rfl (.inl rfl) (pe_op op_cat (pv 6) (pe_lst (pa_cons (pv 7) pa_nil)))))))))
      (pss_one (ps_ret (pe_tupleOf (by rfl) B.tuple
        (pe_lc (own := [("group", 5)]) (g := gName 5) (tt := tYes) (te := tThen (tLc (iList K (tVar 5)) (gName 9) tYes (tOp (rIxT K) (tOp (rIxT K) (tVar 1) (tVar 9)) (tC (.int 0))) [9]) (kTup K)) (by rfl) nd
          (pi_list (pe_callB (id := "sorted") (r := rSortD K) (cr_sortD hu) (by rfl) B.sorted (by decide +kernel) (pa_cons (pv 2) pa_nil))) (blkOk_by (own := [("group", 5)]) (N := NPc) (sc := defScope sPieces) (by decide +kernel))
          (fun _ _ _ _ _ => pg_name (i := 5) nd rfl (Or.inl rfl)) (fun _ _ _ _ _ => pts_nil)
          (fun _ _ _ _ _ => pe_tupleOf (by rfl) B.tuple (pe_lc (own := [("at", 9)]) (g := gName 9) (by rfl) nd (pi_list (pv 5)) (blkOk_by (own := [("at", 9)]) (N := NPc) (sc := relS scPO (defScope sPieces)) (by decide +kernel))
            (fun _ _ _ _ _ => pg_name (i := 9) nd rfl (Or.inl rfl)) (fun _ _ _ _ _ => pts_nil) (fun _ _ _ _ _ => pe_ix ix_tup (pe_ix ix_tup (pv 1) (pv 9) (fun _ _ => rfl)) pe_int (fun _ _ => rfl)))))))))), ?_⟩
    have f6 := few.many
    refine ⟨_, rfl, q, _, 1, .ref sa, rfl, rfl, hq1, rfl, Nat.zero_le _, fun G0 nG0 => ?_⟩
    refine ⟨_, rfl, sa, us, rfl, .inr (seqT (same_new nG0) hq3), us.length, rfl, by omega, by omega, ?_⟩
    refine for_rng (lo := 0) (n := ((us.length : Nat) : Int).toNat) (fun i σ Hh => ∃ G y3 y4 y6 y7 vs, σ = [some (.ref q), some (.ref sa), some (.ref G), y3, y4, none, y6, y7, none, none] ∧ Same H Hh ∧ Hh G = some (.lst vs) ∧ Paired (GrpAt Hh) vs (groupsN ats i)) ⟨G0, none, none, none, none, [], rfl, same_new nG0, upd_same, .nil⟩ ?_ ?_
    · rintro i σ H1 hi ⟨G, y3, y4, y6, y7, vs, rfl, s1, hG, hgs⟩
      have hi' : i < ats.length := by
        rw [Int.toNat_natCast, len4] at hi
        exact hi
      have ok := groupsN_ok ats i
      generalize hgsN : groupsN ats i = gs at hgs ok
      have lv := paired_len hgs
      have mg6 := ok.many
      have e0 : V.int (0 + (i : Int)) = .int (i : Int) := by rw [Int.zero_add]
      rw [e0]
      -- touched
      refine ⟨_, rfl, G, rfl, ⟨_, SqL.of hG⟩, fun D nD => ?_⟩
      refine walk_list (xs := vs) (fun k H7 => Same H1 H7 ∧ ∃ ws, H7 D = some (.lst ws) ∧ Paired (GrpAt H1) ws ((gs.take k).filter (touchB ats i))) ⟨same_new nD, [], upd_same, .nil⟩ (fun k H7 _ h => SqL.of (h.1 _ _ hG)) ?_ ?_
      · rintro k x H7 hx ⟨sm, ws, hD, hws⟩
        obtain ⟨g, hg, p, rfl, hp⟩ := paired_get hgs hx
        have hgm := List.mem_of_getElem? hg
        have sH := s1.trans sm
        have lw := paired_len hws
        have lw2 : ws.length ≤ 6 := by
          rw [lw]
          refine Nat.le_trans (List.length_filter_le _ _) ?_
          rw [List.length_take]
          omega
        have ft := filter_take (touchB ats i) gs k g hg
        refine ⟨rfl, ?_⟩
        refine ⟨_, rfl, _, rfl, _, rfl, sa, p, us, ats, i, g, rfl, seqT sH hq3, AtsAt.same hq4 sH, few, hi', SqL.of (sm _ _ hp), fun j hj => Nat.lt_trans (ok.lt hgm hj) hi', by have := ok.size hgm; omega, fun H8 s8 => ⟨_, rfl, ?_⟩⟩
        cases ht : touchB ats i g with
        | true =>
          rw [ht] at ft
          refine iteT ⟨_, rfl, _, s8 _ _ hD, small1000 (by omega), fun b o e => ?_, ws ++ [.ref p], upd_same, ?_⟩
          · rw [upd_ne (ne_of_none e nD)]
            exact s8 _ _ (sm _ _ e)
          · rw [ft]
            exact Paired.snoc hws ⟨p, rfl, hp⟩
        | false =>
          rw [ht] at ft
          refine iteF ⟨sm.trans s8, ws, s8 _ _ hD, ?_⟩
          rw [ft]
          simpa using hws
      rintro H2 ⟨s2, ts, hD, hts⟩
      rw [lv, List.take_length] at hts
      -- apart
      have hG2 := s2 _ _ hG
      have stg : s1.trans s2 = s1.trans s2 := rfl
      have sH2 := s1.trans s2
      refine ⟨_, rfl, G, rfl, ⟨_, SqL.of hG2⟩, fun D2 nD2 => ?_⟩
      refine walk_list (xs := vs) (fun k H7 => Same H2 H7 ∧ ∃ ws, H7 D2 = some (.lst ws) ∧ Paired (GrpAt H1) ws ((gs.take k).filter fun g => !touchB ats i g)) ⟨same_new nD2, [], upd_same, .nil⟩ (fun k H7 _ h => SqL.of (h.1 _ _ hG2)) ?_ ?_
      · rintro k x H7 hx ⟨sm, ws, hD2, hws⟩
        obtain ⟨g, hg, p, rfl, hp⟩ := paired_get hgs hx
        have hgm := List.mem_of_getElem? hg
        have lw := paired_len hws
        have lw2 : ws.length ≤ 6 := by
          rw [lw]
          refine Nat.le_trans (List.length_filter_le _ _) ?_
          rw [List.length_take]
          omega
        have ft := filter_take (fun g => !touchB ats i g) gs k g hg
        have hp7 := sm _ _ (s2 _ _ hp)
        refine ⟨rfl, ?_⟩
        refine ⟨_, rfl, _, rfl, gD g, (gs.filter (touchB ats i)).map gD, gD_dp hp7, .lst (SqL.of (sm _ _ hD)) (grp_dp (paired_mono (fun _ _ z => (GrpAt.same z s2).same sm) hts)), gD_shaped g, gDs_shaped _, _, rfl, ?_⟩
        rw [not_in_touched (touchB ats i) gs g hgm]
        cases ht : touchB ats i g with
        | true =>
          simp only [ht] at ft
          refine iteF ⟨sm, ws, hD2, ?_⟩
          rw [ft]
          simpa using hws
        | false =>
          simp only [ht] at ft
          refine iteT ⟨_, rfl, _, hD2, small1000 (by omega), fun b o e => ?_, ws ++ [.ref p], upd_same, ?_⟩
          · rw [upd_ne (ne_of_none e nD2)]
            exact sm _ _ e
          · rw [ft]
            exact Paired.snoc hws ⟨p, rfl, hp⟩
      rintro H3 ⟨s3, as, hD2, has⟩
      rw [lv, List.take_length] at has
      -- joined
      have hD3 := s3 _ _ hD
      have lt6 : (gs.filter (touchB ats i)).length ≤ 6 := Nat.le_trans (List.length_filter_le _ _) (by omega)
      have flat6 : ∀ k, ((gs.filter (touchB ats i)).take k).flatten.length ≤ 36 := fun k => by
        have q : ∀ l : List (List Nat), (∀ g ∈ l, g.length ≤ 6) → l.flatten.length ≤ 6 * l.length := fun l => by
          induction l with
          | nil => intro _; simp
          | cons y r ih =>
            intro h
            rw [List.flatten_cons, List.length_append, List.length_cons]
            have q1 := ih fun z hz => h z (List.mem_cons_of_mem _ hz)
            have q2 := h y List.mem_cons_self
            omega
        have q2 := q ((gs.filter (touchB ats i)).take k) fun g hg => by
          have := ok.size (List.mem_filter.mp (List.mem_of_mem_take hg)).1
          omega
        rw [List.length_take] at q2
        omega
      refine ⟨_, rfl, D, rfl, ⟨_, SqL.of hD3⟩, fun E3 nE3 => ?_⟩
      refine walk_list (xs := ts) (fun k H7 => Same H3 H7 ∧ H7 E3 = some (.lst (((gs.filter (touchB ats i)).take k).flatten.map natV))) ⟨same_new nE3, upd_same⟩ (fun k H7 _ h => SqL.of (h.1 _ _ hD3)) ?_ ?_
      · rintro k x H7 hx ⟨sm, hE⟩
        obtain ⟨g, hg, p, rfl, hp⟩ := paired_get hts hx
        have hp7 := sm _ _ (s3 _ _ (s2 _ _ hp))
        have f1 := flat6 (k + 1)
        have e1 : ((gs.filter (touchB ats i)).take (k + 1)).flatten = ((gs.filter (touchB ats i)).take k).flatten ++ g := by
          rw [List.take_add_one, hg, List.flatten_append]
          simp
        rw [e1, List.length_append] at f1
        refine ⟨rfl, ?_⟩
        refine tyes ?_
        refine ⟨_, rfl, p, rfl, ⟨_, SqL.of hp7⟩, ?_⟩
        refine walk_list (xs := g.map natV) (fun d H8 => Same H3 H8 ∧ H8 E3 = some (.lst ((((gs.filter (touchB ats i)).take k).flatten ++ g.take d).map natV))) ⟨sm, by rw [List.take_zero, List.append_nil]; exact hE⟩ (fun d H8 _ h => SqL.of (h.1 _ _ (s3 _ _ (s2 _ _ hp)))) ?_ ?_
        · rintro d y H8 hy ⟨sm8, hE8⟩
          rw [List.getElem?_map] at hy
          obtain ⟨j, hj, rfl⟩ := Option.map_eq_some_iff.mp hy
          refine ⟨rfl, ?_⟩
          refine tyes ?_
          refine ⟨_, rfl, _, hE8, ?_, fun b o e => ?_, ?_⟩
          · rw [List.length_map, List.length_append, List.length_take]
            exact small1000 (by omega)
          · rw [upd_ne (ne_of_none e nE3)]
            exact sm8 _ _ e
          · rw [upd_same, List.take_add_one, hj]
            simp
        · rintro H8 ⟨sm8, hE8⟩
          rw [List.length_map, List.take_length] at hE8
          exact ⟨sm8, by rw [e1]; exact hE8⟩
      rintro H4 ⟨s4, hE⟩
      have lts := paired_len hts
      rw [lts, List.take_length] at hE
      have f2 := flat6 (gs.filter (touchB ats i)).length
      rw [List.take_length] at f2
      refine ⟨_, rfl, ln 1 (by decide), fun c nc => ⟨E3, c, _, _, rfl, rfl, at_new hE nc, upd_same, by rw [List.length_map]; exact ln _ (by show _ + 1 ≤ 1000; omega), fun l nl => ?_⟩⟩
      have e2 : (gs.filter (touchB ats i)).flatten.map natV ++ [V.int (i : Int)] = (((gs.filter (touchB ats i)).flatten ++ [i]).map fun j : Nat => (j : Int)).map V.int := by
        rw [← natV_int, List.map_append]
        rfl
      refine ⟨l, ((gs.filter (touchB ats i)).flatten ++ [i]).map fun j : Nat => (j : Int), rfl, SqL.of (by rw [upd_same, e2]), fun ns p perm sorted np => ?_⟩
      have e3 := sortN_ints perm sorted
      subst e3
      have s5 := s4.trans ((same_new (o := .lst [.int (i : Int)]) nc).trans ((same_new (o := .lst ((gs.filter (touchB ats i)).flatten.map natV ++ [.int (i : Int)])) nl).trans (same_new (o := .lst ((((sortN ((gs.filter (touchB ats i)).flatten ++ [i])).map fun j : Nat => (j : Int))).map V.int)) np)))
      have hp5 : upd (upd (upd H4 c (.lst [.int (i : Int)])) l (.lst ((gs.filter (touchB ats i)).flatten.map natV ++ [.int (i : Int)]))) p (.lst ((((sortN ((gs.filter (touchB ats i)).flatten ++ [i])).map fun j : Nat => (j : Int))).map V.int)) p = some (.lst ((sortN ((gs.filter (touchB ats i)).flatten ++ [i])).map natV)) := by
        rw [upd_same, natV_int]
      -- groups
      have las : as.length ≤ 6 := by
        rw [paired_len has]
        exact Nat.le_trans (List.length_filter_le _ _) (by omega)
      refine ⟨_, rfl, _, rfl, ln 1 (by decide), fun c2 nc2 => ⟨D2, c2, as, [.ref p], rfl, rfl, at_new (s5 _ _ hD2) nc2, upd_same, ln _ (by show as.length + 1 ≤ 1000; omega), fun G2 nG2 => ?_⟩⟩
      have s6 := s5.trans ((same_new (o := .lst [.ref p]) nc2).trans (same_new (o := .lst (as ++ [.ref p])) nG2))
      have s56 := (same_new (o := .lst [.ref p]) nc2).trans (same_new (o := .lst (as ++ [.ref p])) nG2)
      refine ⟨G2, _, _, _, _, as ++ [.ref p], rfl, ((sH2.trans s3).trans s6), upd_same, ?_⟩
      rw [groupsN_succ, hgsN]
      exact Paired.snoc (paired_mono (fun _ _ z => ((GrpAt.same z s2).same s3).same s6) has) ⟨p, rfl, s56 _ _ hp5⟩
    · rintro σ H1 ⟨G, y3, y4, y6, y7, vs, rfl, s1, hG, hgs⟩
      have e9 : ((us.length : Nat) : Int).toNat = ats.length := by rw [Int.toNat_natCast, len4]
      rw [e9] at hgs
      have ok := groupsN_ok ats ats.length
      generalize hgsN : groupsN ats ats.length = gs at hgs ok
      obtain ⟨z1, z2, z3⟩ := paired_zip hgs
      have eL1 : ((vs.zip gs).map fun p => (p.1, gD p.2)).map (·.1) = vs := by
        rw [List.map_map]
        exact z1
      have eL2 : ((vs.zip gs).map fun p => (p.1, gD p.2)).map (·.2) = gs.map gD := by
        have e : gs.map gD = ((vs.zip gs).map (·.2)).map gD := by rw [z2]
        rw [e, List.map_map, List.map_map]
        rfl
      have many := ok.many
      have lv := paired_len hgs
      refine ⟨_, rfl, G, (vs.zip gs).map fun p => (p.1, gD p.2), rfl, SqL.of (by rw [eL1]; exact hG), fun p hp => ?_, ?_, ?_, fun S nS => ?_⟩
      · obtain ⟨m, hm, rfl⟩ := List.mem_map.mp hp
        obtain ⟨b, e, h⟩ := z3 m hm
        refine ⟨by rw [e]; exact gD_dp h, Nat.le_trans (gD_depth _) (by decide)⟩
      · rw [eL2]
        refine PySem.W.AllAlike.of fun a b => ?_
        unfold gD
        rw [nats_int, nats_int]
        show PySem.W.alike (.list _) (.list _) = true
        rw [PySem.W.alike]
        exact PySem.W.alike_ints _ _
      · rw [eL2]
        exact PySem.W.Sortable.others fun g => ⟨by unfold gD; simp, fun xs => by unfold gD; simp⟩
      have eM : (((vs.zip gs).map fun p => (p.1, gD p.2)).mergeSort byData) = ((vs.zip gs).mergeSort fun p q => leG p.2 q.2).map fun p => (p.1, gD p.2) :=
        (List.map_mergeSort (f := fun p : V × List Nat => (p.1, gD p.2)) (r := fun p q => leG p.2 q.2) (s := byData) (l := vs.zip gs) (fun a _ b _ => rfl)).symm
      have eM2 : ((vs.zip gs).mergeSort fun p q => leG p.2 q.2).map (·.2) = gs.mergeSort leG := by
        rw [List.map_mergeSort (f := fun p : V × List Nat => p.2) (r := fun p q => leG p.2 q.2) (s := leG) (l := vs.zip gs) (fun a _ b _ => rfl), z2]
      have pM := List.mergeSort_perm (vs.zip gs) fun p q => leG p.2 q.2
      have hM : ∀ p ∈ (vs.zip gs).mergeSort fun p q => leG p.2 q.2, GrpAt H1 p.1 p.2 := fun p hp => z3 p (pM.mem_iff.mp hp)
      have gM : ∀ g ∈ ((vs.zip gs).mergeSort fun p q => leG p.2 q.2).map (·.2), g ∈ gs := fun g hg => by
        rw [eM2] at hg
        exact (List.mergeSort_perm _ _).mem_iff.mp hg
      have lM : ((vs.zip gs).mergeSort fun p q => leG p.2 q.2).length = gs.length := by
        rw [pM.length_eq, List.length_zip]
        omega
      rw [eM, List.map_map]
      have eM3 : ((vs.zip gs).mergeSort fun p q => leG p.2 q.2).map ((fun p : V × PyData => p.1) ∘ fun p : V × List Nat => (p.1, gD p.2)) = ((vs.zip gs).mergeSort fun p q => leG p.2 q.2).map (·.1) := rfl
      rw [eM3]
      have PM := zip_paired _ hM
      unfold piecesN at fin
      rw [hgsN, ← eM2] at fin
      generalize ((vs.zip gs).mergeSort fun p q => leG p.2 q.2) = M at PM gM lM fin ⊢
      have sS : Same H1 (upd H1 S (.lst (M.map (·.1)))) := same_new nS
      refine ⟨S, rfl, ⟨_, SqL.of upd_same⟩, fun D nD => ?_⟩
      have hS : upd H1 S (.lst (M.map (·.1))) S = some (.lst (M.map (·.1))) := upd_same
      generalize upd H1 S (.lst (M.map (·.1))) = J at sS hS nD ⊢
      refine walk_list (xs := M.map (·.1)) (fun k H7 => Same J H7 ∧ ∃ ws, H7 D = some (.lst ws) ∧ ws.length = k ∧ Paired (TxtAt K H7) ws (((M.map (·.2)).take k).map fun g => g.map (tabAt ats))) ⟨same_new nD, [], upd_same, rfl, .nil⟩ (fun k H7 _ h => SqL.of (h.1 _ _ hS)) ?_ ?_
      · rintro k x H7 hx ⟨sm, ws, hD, lw, hws⟩
        obtain ⟨g, hg, p, rfl, hp⟩ := paired_get PM hx
        have hgm := gM g (List.mem_of_getElem? hg)
        have gsz := ok.size hgm
        have hk : k < M.length := by
          have := (List.getElem?_eq_some_iff.mp hx).1
          rw [List.length_map] at this
          exact this
        have hp7 := sm _ _ (sS _ _ hp)
        have sH := s1.trans (sS.trans sm)
        refine ⟨rfl, ?_⟩
        refine tyes ?_
        refine ⟨_, rfl, p, rfl, ⟨_, SqL.of hp7⟩, fun D2 nD2 => ?_⟩
        refine walk_list (xs := g.map natV) (fun d H8 => Same H7 H8 ∧ H8 D2 = some (.lst (((g.take d).map (tabAt ats)).map V.str))) ⟨same_new nD2, upd_same⟩ (fun d H8 _ h => SqL.of (h.1 _ _ hp7)) ?_ ?_
        · rintro d y H8 hy ⟨sm8, hD2⟩
          rw [List.getElem?_map] at hy
          obtain ⟨j, hj, rfl⟩ := Option.map_eq_some_iff.mp hy
          have hj2 := ok.lt hgm (List.mem_of_getElem? hj)
          obtain ⟨c, r, k1, k2, k3⟩ := ats_at hq4 hj2
          refine ⟨rfl, ?_⟩
          refine tyes ?_
          refine ⟨_, rfl, _, rfl, sa, us, j, .ref c, rfl, rfl, seqT (sH.trans sm8) hq3, atI_nat k1, c, _, 0, .str (tabAt ats j), rfl, rfl, seqT (sH.trans sm8) k2, rfl, _, hD2, ?_, fun b o e => ?_, ?_⟩
          · rw [List.length_map, List.length_map, List.length_take]
            exact small1000 (by omega)
          · rw [upd_ne (ne_of_none e nD2)]
            exact sm8 _ _ e
          · rw [upd_same, List.take_add_one, hj]
            simp
        · rintro H8 ⟨sm8, hD2⟩
          rw [List.length_map, List.take_length] at hD2
          refine .inl ⟨D2, _, rfl, SqL.of hD2, fun r nr => ?_⟩
          have s9 := sm8.trans (same_new (o := .tup ((g.map (tabAt ats)).map V.str)) nr)
          have hD9 := s9 _ _ hD
          refine ⟨_, hD9, small1000 (by omega), fun b o e => ?_, ws ++ [.ref r], upd_same, by rw [List.length_append, lw]; rfl, ?_⟩
          · rw [upd_ne (ne_of_none e nD)]
            exact s9 _ _ (sm _ _ e)
          · rw [List.take_add_one, hg, List.map_append]
            have bD : But D (upd H8 r (.tup ((g.map (tabAt ats)).map V.str))) (upd (upd H8 r (.tup ((g.map (tabAt ats)).map V.str))) D (.lst (ws ++ [.ref r]))) := But.upd (But.refl _ _)
            refine Paired.snoc (paired_mono (fun _ _ ⟨c, e1, e2⟩ => ⟨c, e1, seqT_but bD hD9 (seqT s9 e2)⟩) hws) ⟨r, rfl, seqT_but bD hD9 (SqT.of upd_same)⟩
      · rintro H7 ⟨sm, ws, hD, lw, hws⟩
        have lM2 : (M.map (·.1)).length = (M.map (·.2)).length := by rw [List.length_map, List.length_map]
        rw [lM2, List.take_length] at hws
        have sH := s1.trans (sS.trans sm)
        refine .inl ⟨D, ws, rfl, SqL.of hD, fun r nr => ?_⟩
        have s9 := sH.trans (same_new (o := .tup ws) nr)
        exact fin _ r ws s9 (sH.free nr) upd_same (paired_mono (fun _ _ z => TxtAt.same z (same_new nr)) hws)
end
end Cut
set_option Elab.async false
set_option linter.all false
set_option maxRecDepth 100000
set_option maxHeartbeats 4000000
namespace Cut
open PySem PySem.Spec PyProof.Rows L2
/-! ### chains of atoms -/
def TT (ats : List Atm) (j k : Nat) : Prop := ∃ x, x ∈ namesAt ats j ∧ x ∈ namesAt ats k
theorem TT.symm {ats : List Atm} {j k : Nat} (h : TT ats j k) : TT ats k j := let ⟨x, a, b⟩ := h; ⟨x, b, a⟩
inductive Cn (ats : List Atm) : Nat → Nat → Prop
  | refl {i : Nat} : i < ats.length → Cn ats i i
  | step {i j k : Nat} : Cn ats i j → TT ats j k → k < ats.length → Cn ats i k
theorem Cn.lt {ats : List Atm} {i j : Nat} (h : Cn ats i j) : i < ats.length ∧ j < ats.length := by
  induction h with
  | refl h => exact ⟨h, h⟩
  | step _ _ h ih => exact ⟨ih.1, h⟩
theorem Cn.trans {ats : List Atm} {i j k : Nat} (a : Cn ats i j) (b : Cn ats j k) : Cn ats i k := by
  induction b with
  | refl _ => exact a
  | step _ t l ih => exact .step ih t l
theorem Cn.symm {ats : List Atm} {i j : Nat} (a : Cn ats i j) : Cn ats j i := by
  induction a with
  | refl h => exact .refl h
  | step c t l ih => exact (Cn.step (.refl l) t.symm c.lt.2).trans ih
theorem touch_iff {ats : List Atm} {i : Nat} {g : List Nat} : touchB ats i g = true ↔ ∃ j ∈ g, TT ats j i := by
  unfold touchB TT
  rw [List.any_eq_true]
  constructor
  · rintro ⟨j, hj, h⟩
    obtain ⟨x, hx, h2⟩ := List.any_eq_true.mp h
    exact ⟨j, hj, x, hx, of_decide_eq_true h2⟩
  · rintro ⟨j, hj, x, hx, h2⟩
    exact ⟨j, hj, List.any_eq_true.mpr ⟨x, hx, decide_eq_true h2⟩⟩
/-- what the groups are, of the first i atoms -/
structure GInv (ats : List Atm) (i : Nat) (gs : List (List Nat)) : Prop where
  ok : GOk i gs
  asc : ∀ g ∈ gs, g.Pairwise (· ≤ ·)
  sound : ∀ g ∈ gs, ∀ j ∈ g, ∀ k ∈ g, Cn ats j k
  close : ∀ g ∈ gs, ∀ j ∈ g, ∀ k, k < i → TT ats j k → k ∈ g
theorem GInv.step {ats : List Atm} {i : Nat} {gs : List (List Nat)} (h : GInv ats i gs) (hi : i < ats.length) : GInv ats (i + 1) (stepN ats gs i) := by
  have mem_new : ∀ j, j ∈ sortN ((gs.filter (touchB ats i)).flatten ++ [i]) ↔ (∃ g ∈ gs, touchB ats i g = true ∧ j ∈ g) ∨ j = i := fun j => by
    rw [(sortN_perm _).mem_iff, List.mem_append, List.mem_flatten, List.mem_singleton]
    constructor
    · rintro (⟨g, hg, hj⟩ | e)
      · exact .inl ⟨g, (List.mem_filter.mp hg).1, (List.mem_filter.mp hg).2, hj⟩
      · exact .inr e
    · rintro (⟨g, hg, ht, hj⟩ | e)
      · exact .inl ⟨g, List.mem_filter.mpr ⟨hg, ht⟩, hj⟩
      · exact .inr e
  have group_of : ∀ k, k < i → ∃ g ∈ gs, k ∈ g := fun k hk => by
    have m := h.ok.flat.mem_iff.mpr (List.mem_range.mpr hk)
    obtain ⟨g, hg, hj⟩ := List.mem_flatten.mp m
    exact ⟨g, hg, hj⟩
  have to_i : ∀ j, (∃ g ∈ gs, touchB ats i g = true ∧ j ∈ g) ∨ j = i → Cn ats j i := fun j hj => by
    rcases hj with ⟨g, hg, ht, hj⟩ | rfl
    · obtain ⟨k, hk, t⟩ := touch_iff.mp ht
      exact .step (h.sound g hg j hj k hk) t hi
    · exact .refl hi
  refine ⟨h.ok.step, fun g hg => ?_, fun g hg j hj k hk => ?_, fun g hg j hj k hk t => ?_⟩
  · rcases List.mem_append.mp hg with hg | hg
    · exact h.asc g (List.mem_filter.mp hg).1
    · rw [List.mem_singleton.mp hg]
      exact sortN_sorted _
  · rcases List.mem_append.mp hg with hg | hg
    · exact h.sound g (List.mem_filter.mp hg).1 j hj k hk
    · rw [List.mem_singleton.mp hg] at hj hk
      exact (to_i j ((mem_new j).mp hj)).trans (to_i k ((mem_new k).mp hk)).symm
  · rcases List.mem_append.mp hg with hg | hg
    · obtain ⟨h1, h2⟩ := List.mem_filter.mp hg
      by_cases e : k = i
      · subst e
        have := touch_iff.mpr ⟨j, hj, t⟩
        rw [this] at h2
        cases h2
      · exact h.close g h1 j hj k (by omega) t
    · rw [List.mem_singleton.mp hg] at hj ⊢
      rw [mem_new] at hj ⊢
      by_cases e : k = i
      · exact .inr e
      · have hk' : k < i := by omega
        rcases hj with ⟨g', hg', ht, hj⟩ | rfl
        · exact .inl ⟨g', hg', ht, h.close g' hg' j hj k hk' t⟩
        · obtain ⟨g', hg', hk2⟩ := group_of k hk'
          exact .inl ⟨g', hg', touch_iff.mpr ⟨k, hk2, t.symm⟩, hk2⟩
theorem groupsN_inv (ats : List Atm) : ∀ i, i ≤ ats.length → GInv ats i (groupsN ats i)
  | 0, _ => ⟨⟨List.Perm.refl _, fun g h => by simp [groupsN] at h⟩, fun g h => by simp [groupsN] at h, fun g h => by simp [groupsN] at h, fun g h => by simp [groupsN] at h⟩
  | i + 1, hi => by
    rw [groupsN_succ]
    exact (groupsN_inv ats i (by omega)).step (by omega)
/-- a whole group is all that chains lead to -/
theorem group_is {ats : List Atm} {gs : List (List Nat)} (h : GInv ats ats.length gs) {g : List Nat} (hg : g ∈ gs) {j : Nat} (hj : j ∈ g) (k : Nat) : k ∈ g ↔ Cn ats j k := by
  constructor
  · exact fun hk => h.sound g hg j hj k hk
  · intro c
    induction c with
    | refl _ => exact hj
    | step c t l ih => exact h.close g hg _ ih _ l t
end Cut
set_option Elab.async false
set_option linter.all false
set_option maxRecDepth 100000
set_option maxHeartbeats 4000000
namespace Cut
open PySem PySem.Spec PyProof.Rows L2
/-- whether a chain leads from one to the other -/
noncomputable def cnB (ats : List Atm) (i k : Nat) : Bool := @decide (Cn ats i k) (Classical.propDecidable _)
noncomputable def lsB (ats : List Atm) (i : Nat) : Bool := @decide (∀ j, j < i → ¬ Cn ats j i) (Classical.propDecidable _)
theorem cnB_iff {ats : List Atm} {i k : Nat} : cnB ats i k = true ↔ Cn ats i k := @decide_eq_true_iff _ (Classical.propDecidable _)
theorem lsB_iff {ats : List Atm} {i : Nat} : lsB ats i = true ↔ ∀ j, j < i → ¬ Cn ats j i := @decide_eq_true_iff _ (Classical.propDecidable _)
/-- all that chains lead to, ascending -/
noncomputable def compN (ats : List Atm) (i : Nat) : List Nat := (List.range ats.length).filter (cnB ats i)
/-- the least one of each piece -/
noncomputable def leastN (ats : List Atm) : List Nat := (List.range ats.length).filter (lsB ats)
noncomputable def compsN (ats : List Atm) : List (List Nat) := (leastN ats).map (compN ats)
theorem mem_compN {ats : List Atm} {i k : Nat} : k ∈ compN ats i ↔ Cn ats i k := by
  unfold compN
  rw [List.mem_filter, cnB_iff]
  exact ⟨fun h => h.2, fun h => ⟨List.mem_range.mpr h.lt.2, h⟩⟩
theorem mem_leastN {ats : List Atm} {i : Nat} : i ∈ leastN ats ↔ i < ats.length ∧ ∀ j, j < i → ¬ Cn ats j i := by
  unfold leastN
  rw [List.mem_filter, List.mem_range, lsB_iff]
theorem asc_filter (n : Nat) (p : Nat → Bool) : ((List.range n).filter p).Pairwise (· < ·) := List.Pairwise.sublist List.filter_sublist List.pairwise_lt_range
theorem asc_eq {a b : List Nat} (h1 : a.Pairwise (· ≤ ·)) (n1 : a.Nodup) (h2 : b.Pairwise (· ≤ ·)) (n2 : b.Nodup) (h : ∀ k, k ∈ a ↔ k ∈ b) : a = b :=
  List.Perm.eq_of_pairwise (le := fun x y : Nat => x ≤ y) (fun x y _ _ p q => Nat.le_antisymm p q) h1 h2 ((List.perm_ext_iff_of_nodup n1 n2).mpr h)
theorem lt_nodup {a : List Nat} (h : a.Pairwise (· < ·)) : a.Nodup := h.imp fun h => Nat.ne_of_lt h
theorem compN_asc (ats : List Atm) (i : Nat) : (compN ats i).Pairwise (· ≤ ·) ∧ (compN ats i).Nodup := ⟨(asc_filter _ _).imp fun h => Nat.le_of_lt h, lt_nodup (asc_filter _ _)⟩
theorem group_eq {ats : List Atm} {gs : List (List Nat)} (h : GInv ats ats.length gs) {g : List Nat} (hg : g ∈ gs) {j : Nat} (hj : j ∈ g) : g = compN ats j := by
  have nd : gs.flatten.Nodup := h.ok.flat.nodup_iff.mpr List.nodup_range
  refine asc_eq (h.asc g hg) ((List.sublist_flatten_of_mem hg).nodup nd) (compN_asc ats j).1 (compN_asc ats j).2 fun k => ?_
  rw [mem_compN]
  exact group_is h hg hj k
theorem leG_eq (a b : List Nat) : leG a b = decide (a.map (fun j : Nat => (j : Int)) ≤ b.map (fun j : Nat => (j : Int))) := by
  have e := PySem.W.dataLe_rows (fun g : List Nat => g.map (fun j : Nat => (j : Int)))
  have e2 := congrFun (congrFun e a) b
  rw [← e2]
  unfold leG gD
  rw [nats_int, nats_int]
  rfl
theorem map_inj {a b : List Nat} (h : a.map (fun j : Nat => (j : Int)) = b.map (fun j : Nat => (j : Int))) : a = b :=
  List.map_inj_right (fun x y e => by omega) |>.mp h
theorem leG_anti {a b : List Nat} (h1 : leG a b = true) (h2 : leG b a = true) : a = b := by
  rw [leG_eq] at h1 h2
  exact map_inj (List.le_antisymm (of_decide_eq_true h1) (of_decide_eq_true h2))
theorem leG_trans (a b c : List Nat) (h1 : leG a b = true) (h2 : leG b c = true) : leG a c = true := by
  rw [leG_eq] at h1 h2 ⊢
  exact decide_eq_true (List.le_trans (of_decide_eq_true h1) (of_decide_eq_true h2))
theorem leG_total (a b : List Nat) : (leG a b || leG b a) = true := by
  rw [leG_eq, leG_eq]
  rcases List.le_total (a.map (fun j : Nat => (j : Int))) (b.map (fun j : Nat => (j : Int))) with h | h
  · rw [decide_eq_true h]; rfl
  · rw [decide_eq_true h, Bool.or_true]
theorem leG_head {i k : Nat} (a b : List Nat) (h : i < k) : leG (i :: a) (k :: b) = true := by
  rw [leG_eq]
  refine decide_eq_true (List.le_of_lt ?_)
  rw [List.map_cons, List.map_cons]
  exact List.Lex.rel (by omega)
/-- of a least one what chains lead to begins with it -/
theorem compN_cons {ats : List Atm} {i : Nat} (h : i ∈ leastN ats) : ∃ r, compN ats i = i :: r := by
  obtain ⟨h1, h2⟩ := mem_leastN.mp h
  have m : i ∈ compN ats i := mem_compN.mpr (.refl h1)
  cases e : compN ats i with
  | nil => rw [e] at m; simp at m
  | cons x r =>
    rw [e] at m
    rcases List.mem_cons.mp m with rfl | m
    · exact ⟨r, rfl⟩
    · have s := asc_filter ats.length (cnB ats i)
      have e2 : (List.range ats.length).filter (cnB ats i) = x :: r := e
      rw [e2] at s
      have lt := (List.pairwise_cons.mp s).1 i m
      have c : Cn ats i x := mem_compN.mp (by rw [e]; exact List.mem_cons_self)
      exact absurd c.symm (h2 x lt)
theorem compsN_sorted (ats : List Atm) : (compsN ats).Pairwise (fun a b => leG a b = true) := by
  unfold compsN
  rw [List.pairwise_map]
  have s2 : (leastN ats).Pairwise (· < ·) := asc_filter ats.length (lsB ats)
  refine (List.pairwise_iff_forall_sublist.mpr ?_)
  intro a b sub
  have lt := (List.pairwise_iff_forall_sublist.mp s2) sub
  obtain ⟨r1, e1⟩ := compN_cons (sub.subset (by simp : a ∈ [a, b]))
  obtain ⟨r2, e2⟩ := compN_cons (sub.subset (by simp : b ∈ [a, b]))
  rw [e1, e2]
  exact leG_head r1 r2 lt
theorem compsN_nodup (ats : List Atm) : (compsN ats).Nodup := by
  unfold compsN
  have s2 : (leastN ats).Pairwise (· < ·) := asc_filter ats.length (lsB ats)
  show ((leastN ats).map (compN ats)).Pairwise (· ≠ ·)
  rw [List.pairwise_map]
  refine (List.pairwise_iff_forall_sublist.mpr ?_)
  intro a b sub e
  have lt := (List.pairwise_iff_forall_sublist.mp s2) sub
  obtain ⟨r1, e1⟩ := compN_cons (sub.subset (by simp : a ∈ [a, b]))
  obtain ⟨r2, e2⟩ := compN_cons (sub.subset (by simp : b ∈ [a, b]))
  rw [e1, e2] at e
  have := (List.cons.inj e).1
  omega
theorem groups_nodup {ats : List Atm} {i : Nat} {gs : List (List Nat)} (h : GOk i gs) : gs.Nodup := by
  have nd : gs.flatten.Nodup := h.flat.nodup_iff.mpr List.nodup_range
  have p := (List.pairwise_flatten.mp nd).2
  refine List.pairwise_iff_forall_sublist.mpr ?_
  intro a b sub e
  have q := (List.pairwise_iff_forall_sublist.mp p) sub
  subst e
  cases a with
  | nil => exact h.ne [] (sub.subset (by simp)) rfl
  | cons x r => exact q x List.mem_cons_self x List.mem_cons_self rfl
theorem groups_canon (ats : List Atm) : (groupsN ats ats.length).mergeSort leG = compsN ats := by
  have h := groupsN_inv ats ats.length (Nat.le_refl _)
  refine List.Perm.eq_of_pairwise (le := fun a b => leG a b = true) (fun a b _ _ p q => leG_anti p q) (List.pairwise_mergeSort leG_trans leG_total _) (compsN_sorted ats) ((List.mergeSort_perm _ _).trans ?_)
  refine (List.perm_ext_iff_of_nodup (groups_nodup (ats := ats) h.ok) (compsN_nodup ats)).mpr fun g => ?_
  unfold compsN
  rw [List.mem_map]
  constructor
  · intro hg
    cases e : g with
    | nil => exact absurd e (h.ok.ne g hg)
    | cons x r =>
      have hx : x ∈ g := by rw [e]; exact List.mem_cons_self
      have eg := group_eq h hg hx
      refine ⟨x, mem_leastN.mpr ⟨h.ok.lt hg hx, fun j hj c => ?_⟩, by rw [← eg, e]⟩
      have m : j ∈ g := (group_is h hg hx j).mpr c.symm
      have s := h.asc g hg
      rw [e] at s m
      rcases List.mem_cons.mp m with rfl | m
      · omega
      · have := (List.pairwise_cons.mp s).1 j m
        omega
  · rintro ⟨i, hi, rfl⟩
    obtain ⟨h1, h2⟩ := mem_leastN.mp hi
    obtain ⟨g, hg, hj⟩ := List.mem_flatten.mp (h.ok.flat.mem_iff.mpr (List.mem_range.mpr h1))
    rw [← group_eq h hg hj]
    exact hg
/-- the pieces in the end -/
theorem piecesN_eq (ats : List Atm) : piecesN ats = (compsN ats).map fun g => g.map (tabAt ats) := by
  unfold piecesN
  rw [groups_canon]
end Cut
set_option Elab.async false
set_option linter.all false
set_option maxRecDepth 100000
set_option maxHeartbeats 4000000
namespace Cut
open PySem PySem.Spec PyProof.Rows L2
/-! ### the pieces, found one by one -/
/-- what is closed and joined to i is all that chains lead to -/
theorem closed_is {ats : List Atm} {i : Nat} {S : Nat → Prop} (start : S i) (sound : ∀ k, S k → Cn ats i k) (closed : ∀ j k, S j → TT ats j k → k < ats.length → S k) (k : Nat) : S k ↔ Cn ats i k := by
  refine ⟨sound k, fun c => ?_⟩
  induction c with
  | refl _ => exact start
  | step c t l ih => exact closed _ _ ih t l
noncomputable def foundN (ats : List Atm) (i : Nat) : List (List Nat) := ((List.range i).filter (lsB ats)).map (compN ats)
theorem foundN_succ (ats : List Atm) (i : Nat) : foundN ats (i + 1) = foundN ats i ++ (if lsB ats i = true then [compN ats i] else []) := by
  unfold foundN
  rw [List.range_succ, List.filter_append, List.map_append]
  congr 1
  cases h : lsB ats i with
  | true => simp [List.filter, h]
  | false => simp [List.filter, h]
theorem foundN_all (ats : List Atm) : foundN ats ats.length = compsN ats := rfl
/-- each class has a least one -/
theorem least_of {ats : List Atm} : ∀ (n i : Nat), i ≤ n → i < ats.length → ∃ j, j ≤ i ∧ lsB ats j = true ∧ Cn ats j i
  | 0, i, h, l => ⟨i, Nat.le_refl _, lsB_iff.mpr fun j hj => by omega, .refl l⟩
  | n + 1, i, h, l => by
    by_cases c : ∃ j, j < i ∧ Cn ats j i
    · obtain ⟨j, hj, cj⟩ := c
      obtain ⟨k, hk, hl, ck⟩ := least_of n j (by omega) cj.lt.1
      exact ⟨k, by omega, hl, ck.trans cj⟩
    · exact ⟨i, Nat.le_refl _, lsB_iff.mpr fun j hj cj => c ⟨j, hj, cj⟩, .refl l⟩
theorem found_has {ats : List Atm} {i : Nat} (hi : i < ats.length) : (∃ g ∈ foundN ats i, i ∈ g) ↔ lsB ats i = false := by
  unfold foundN
  constructor
  · rintro ⟨g, hg, h⟩
    obtain ⟨j, hj, rfl⟩ := List.mem_map.mp hg
    have lt := List.mem_range.mp (List.mem_filter.mp hj).1
    cases e : lsB ats i with
    | false => rfl
    | true => exact absurd (mem_compN.mp h) (lsB_iff.mp e j lt)
  · intro e
    obtain ⟨j, hj, hl, c⟩ := least_of i i (Nat.le_refl _) hi
    have ne : j ≠ i := fun z => by rw [z, e] at hl; cases hl
    exact ⟨compN ats j, List.mem_map.mpr ⟨j, List.mem_filter.mpr ⟨List.mem_range.mpr (by omega), hl⟩, rfl⟩, mem_compN.mpr c⟩
end Cut
set_option Elab.async false
set_option linter.all false
set_option maxRecDepth 100000
set_option maxHeartbeats 8000000
namespace Cut
open PySem PySem.Spec PyProof.Rows L2
/-! ### the text of a list in which dicts stand -/
/-- [..]: the new list is not the modules' dict -/
def tLstN (t : TA) : TE := fun σ H Q => t σ H fun xs H1 => xs.length ≤ sizeLine ∧ ∀ p, H1 p = none → p ≠ sysModules → Q (.ref p) (upd H1 p (.lst xs))
theorem pe_lstN {X : Cx} {es : List Expr} {t : TA} {pos : Pos} (h : PA X es t) : PE X (.List es pos) (tLstN t) := by
  refine ⟨fun pins s σ H Q I hq => ?_⟩
  refine wpAny_List_spliced (thn (h.run pos pins s σ H _ I hq) fun us s1 got => ?_)
  obtain ⟨xs, H1, I1, r, z, q⟩ := got
  refine ⟨by rw [← r.length]; exact z, ?_⟩
  have no : H1 s1.heap.objs.size = none := I1.hok.fresh (Nat.le_refl _)
  refine ⟨.ref s1.heap.objs.size, upd H1 s1.heap.objs.size (.lst xs), I1.laid (t' := s1.toks) (fun b u e => Heap.get?_push_of_some _ e) (Nat.le_refl _) ⟨z, us, 0, r, Heap.get?_push_size _ rfl⟩, rfl, q _ no (Nat.ne_of_gt I1.big)⟩
mutual
/-- data without lists and dicts -/
def flatD : PyData → Bool
  | .list _ => false
  | .dict _ => false
  | .tuple xs => flatDs xs
  | _ => true
def flatDs : List PyData → Bool
  | [] => true
  | x :: r => flatD x && flatDs r
end
mutual
theorem flat_reads {h : Heap} : ∀ {d : PyData} {v : Value} {as : List Addr}, flatD d = true → Reads h v d as → as = []
  | .none, _, _, _, r => by cases r; rfl
  | .bool _, _, _, _, r => by cases r; rfl
  | .int _, _, _, _, r => by cases r; rfl
  | .str _, _, _, _, r => by cases r; rfl
  | .list _, _, _, f, _ => by simp [flatD] at f
  | .dict _, _, _, f, _ => by simp [flatD] at f
  | .tuple xs, _, _, f, r => by
    cases r with
    | tuple h1 h2 h3 h4 => exact flats_reads (by simpa only [flatD] using f) h4
theorem flats_reads {h : Heap} : ∀ {ds : List PyData} {vs : List Value} {as : List Addr}, flatDs ds = true → ReadsAll h vs ds as → as = []
  | [], _, _, _, r => by cases r; rfl
  | d :: ds, _, _, f, r => by
    simp only [flatDs, Bool.and_eq_true] at f
    cases r with
    | cons h1 h2 => rw [flat_reads f.1 h1, flats_reads f.2 h2]; rfl
end
/-- the items of a dict as data -/
def itemsD : List (Key × PyData) → List (PyData × PyData) := List.map fun p => (dK p.1, p.2)
inductive DctAt (K : PySem.W.Frag) (H : Hp) : List (Key × V) → List (Key × PyData) → Prop
  | nil : DctAt K H [] []
  | cons {k : Key} {v : V} {d : PyData} {kvs : List (Key × V)} {ds : List (Key × PyData)} : Dp K H v d → flatD d = true → DctAt K H kvs ds → DctAt K H ((k, v) :: kvs) ((k, d) :: ds)
section
variable {X : Cx} {pins : List (Addr × Obj)} {σ : L2.St} {H : Hp} {s : Shared}
theorem dct_reads (I : L2.Inv X pins σ H s) : ∀ {kvs : List (Key × V)} {ds : List (Key × PyData)} {vs : List (Key × Value)} {es : List DictEntry}, DctAt X.K H kvs ds → KV kvs vs → Pairs (mixKind X.prog X.w) es vs →
    ReadsAll s.heap (es.map (·.key)) ((itemsD ds).map (·.1)) [] ∧ ReadsAll s.heap (es.map (·.val)) ((itemsD ds).map (·.2)) []
  | [], [], [], [], _, _, _ => ⟨.nil, .nil⟩
  | (k, v) :: kvs, ds, vs, es, d, r, p => by
    cases d with
    | cons hd hf hr =>
      cases r with
      | cons h1 h2 =>
        cases p with
        | cons g1 g2 g3 =>
          obtain ⟨e1, e2⟩ := dct_reads I hr h2 g3
          obtain ⟨as, rd⟩ := Dp.reads I _ _ _ hd h1.2
          have ea := flat_reads hf rd
          subst ea
          rw [← g2] at rd
          refine ⟨?_, ReadsAll.cons rd e2⟩
          have read_key : ∀ u : Value, keyIs k u = true → Reads s.heap u (dK k) [] := fun u g => by
            rcases keyIs_shape g with ⟨i, t, rfl, e⟩ | ⟨x, t, rfl, e⟩
            · rw [e]
              exact Reads.int i t
            · rw [e]
              exact Reads.str x t
          have g1' := g1
          rw [← h1.1] at g1'
          have rk := read_key _ g1'
          exact ReadsAll.cons rk e1
theorem dict_reads (I : L2.Inv X pins σ H s) {a : Addr} {kvs : List (Key × V)} {ds : List (Key × PyData)} (e : H a = some (.dK kvs)) (d : DctAt X.K H kvs ds) : Reads s.heap (.ref a) (.dict (itemsD ds)) [a] ∧ a ≠ sysModules := by
  obtain ⟨z, hm, vs, rel, o, es, ep, ho, hex, hd, keys, pairs, nd⟩ := dk_of I.hok e
  obtain ⟨e1, e2⟩ := dct_reads I d rel pairs
  refine ⟨?_, fun z => by rw [z] at hm; simp at hm⟩
  exact Reads.dict (as := []) (bs := []) ho hex.1 hd e1 e2
end
/-- repr([x, d]), x flat data and d a dict of flat data -/
def rReprL (K : PySem.W.Frag) : List V → Hp → VK → Prop := fun xs H Q => ∃ (l a : Addr) (x : V) (d : PyData) (kvs : List (Key × V)) (ds : List (Key × PyData)), xs = [.ref l] ∧ l ≠ sysModules ∧
  ((SqL K H l [x, .ref a] ∧ Dp K H x d ∧ flatD d = true ∧ H a = some (.dK kvs) ∧ DctAt K H kvs ds ∧ (PyData.list [d, .dict (itemsD ds)]).showable = true ∧ (PyData.list [d, .dict (itemsD ds)]).depth ≤ 60 ∧ (PyData.list [d, .dict (itemsD ds)]).shown.length ≤ sizeLine ∧ Q (.str (PyData.list [d, .dict (itemsD ds)]).shown) H) ∨
   (SqL K H l [.ref a, x] ∧ Dp K H x d ∧ flatD d = true ∧ H a = some (.dK kvs) ∧ DctAt K H kvs ds ∧ (PyData.list [.dict (itemsD ds), d]).showable = true ∧ (PyData.list [.dict (itemsD ds), d]).depth ≤ 60 ∧ (PyData.list [.dict (itemsD ds), d]).shown.length ≤ sizeLine ∧ Q (.str (PyData.list [.dict (itemsD ds), d]).shown) H))
theorem call_reprL {X : Cx} {k : Nat} (hg : Gd X.A) (hr : Room k X.A) : CallR X (.builtin "repr") (rReprL X.K) := by
  intro pins s σ H xs us Q I r h
  obtain ⟨l, a, x, d, kvs, ds, rfl, nl, h⟩ := h
  rw [Vals.ref1 r]
  have hun := hr.un
  rcases h with ⟨hs, dx, fx, ha, hd, sh, dp, sz, q⟩ | ⟨hs, dx, fx, ha, hd, sh, dp, sz, q⟩
  all_goals
    obtain ⟨its, rv, ⟨o, n, ho, hc, _, hd2⟩, _⟩ := I.list hs
    obtain ⟨rd, na⟩ := dict_reads I ha hd
  · cases rv with
    | cons r1 t =>
      cases t with
      | cons r2 t2 =>
        cases t2
        cases r2
        obtain ⟨as, rx⟩ := Dp.reads I _ _ _ dx r1
        have ea := flat_reads fx rx
        subst ea
        refine repr_data (Reads.list ho hc hd2 (ReadsAll.cons rx (ReadsAll.cons rd ReadsAll.nil))) sh (fun _ => ?_) hg (by omega) sz fun h' t tk kp => ⟨.str _, H, I.kept kp, ⟨t, rfl⟩, q⟩
        simp only [List.mem_cons, List.append_nil, List.nil_append, List.not_mem_nil, or_false, not_or]
        exact ⟨nl.symm, na.symm⟩
  · cases rv with
    | cons r1 t =>
      cases t with
      | cons r2 t2 =>
        cases t2
        cases r1
        obtain ⟨as, rx⟩ := Dp.reads I _ _ _ dx r2
        have ea := flat_reads fx rx
        subst ea
        refine repr_data (Reads.list ho hc hd2 (ReadsAll.cons rd (ReadsAll.cons rx ReadsAll.nil))) sh (fun _ => ?_) hg (by omega) sz fun h' t tk kp => ⟨.str _, H, I.kept kp, ⟨t, rfl⟩, q⟩
        simp only [List.mem_cons, List.append_nil, List.nil_append, List.cons_append, List.not_mem_nil, or_false, not_or]
        exact ⟨nl.symm, na.symm⟩
end Cut
set_option Elab.async false
set_option linter.all false
set_option maxRecDepth 100000
set_option maxHeartbeats 8000000
namespace Cut
open PySem PySem.Spec PyProof.Rows L2
/-! ### two sets of keys are the same -/
theorem pigeon {α : Type} [DecidableEq α] : ∀ (ks ls : List α), ks.Nodup → (∀ k ∈ ks, k ∈ ls) → ls.length ≤ ks.length → ∀ k ∈ ls, k ∈ ks
  | [], ls, _, _, len, k, hk => by
    have : ls = [] := List.eq_nil_of_length_eq_zero (Nat.le_zero.mp len)
    rw [this] at hk
    exact absurd hk (by simp)
  | x :: ks, ls, nd, sub, len, k, hk => by
    by_cases e : k = x
    · rw [e]; exact List.mem_cons_self
    · have n1 := List.nodup_cons.mp nd
      have hx := sub x List.mem_cons_self
      refine List.mem_cons_of_mem _ (pigeon ks (ls.erase x) n1.2 (fun y hy => ?_) ?_ k ((List.mem_erase_of_ne e).mpr hk))
      · exact (List.mem_erase_of_ne fun z : y = x => n1.1 (by rw [← z]; exact hy)).mpr (sub y (List.mem_cons_of_mem _ hy))
      · rw [List.length_erase_of_mem hx]
        rw [List.length_cons] at len
        omega
theorem entry_seteq : entryFor table "set.__eq__" = some Builtin.«frozenset.__eq__» := entryFor_alias (id' := "frozenset.__eq__") (by kernel_rfl) rfl (by decide +kernel) (by kernel_rfl)
theorem sub_frozen : isSubtype (.type "set") (.type "frozenset") = pure false := by rw [isSubtype_type]; kernel_rfl
theorem key_quiet {k : Key} {v : Value} (h : keyIs k v = true) : Builtin.Frozenset.quietEq v = pure true := by
  rcases keyIs_shape h with ⟨i, t, rfl, e⟩ | ⟨x, t, rfl, e⟩
  · rw [e]; rfl
  · rw [e]; rfl
section
variable {P : Program} {w : World} {A : Around} {E : Value → Shared → Prop} {s : Shared} {a b : Addr} {ks ls : List Key}
theorem SetM.setOf {h : Heap} (R : SetM P w h a ks) : h.SetOf (mixKind P w) a (fun k => @decide (k ∈ ks) (Classical.propDecidable _)) ks.length := by
  obtain ⟨o, es, ep, t, ho, hex, hd, good, perm, nd, small, fit, ris, led⟩ := R
  refine ⟨o, es, ep, t, ho, hex, hd, elems_of good, fun k => ?_, small, fit, by rw [← perm.length_eq, List.length_map, Array.length_toList]⟩
  rw [@decide_eq_true_iff _ (Classical.propDecidable _), ← perm.mem_iff, List.mem_map]
  constructor
  · rintro ⟨e, he, ek⟩
    exact ⟨e, he, (good_iff (good e he) k).mpr ek⟩
  · rintro ⟨e, he, ek⟩
    exact ⟨e, he, (good_iff (good e he) k).mp ek⟩
theorem set_quiet {Q : List (Int × Value) → Shared → Prop} (Ra : SetM P w s.heap a ks) (Rb : SetM P w s.heap b ls) (h : ∀ es : List (Int × Value), (∀ e ∈ es, GoodK w e) → (es.map kOf).Perm ks → Q es s) : wpAny (model P w) A (Builtin.Frozenset.walkUnseen a b) Q E s := by
  obtain ⟨o, es, ep, t, ho, hex, hd, good, perm, nd, small, fit, ris, led⟩ := Ra
  obtain ⟨o2, es2, ep2, t2, ho2, hex2, hd2, good2, perm2, nd2, small2, fit2, ris2, led2⟩ := Rb
  unfold Builtin.Frozenset.walkUnseen
  refine wpAny_bind (wpAny_setEntries_of ho hd fit ?_)
  refine wpAny_bind (wpAny_setEntries_of ho2 hd2 fit2 ?_)
  have all : ∀ e ∈ es.toList ++ es2.toList, GoodK w e := fun e he => (List.mem_append.mp he).elim (good e) (good2 e)
  refine wpAny_bind (wpAny_forIn_list _ (fun rest b s' => b.1 = none ∧ s' = s ∧ ∀ e ∈ rest, GoodK w e) _ ?_ ?_ _ _ ⟨rfl, rfl, all⟩)
  · rintro ⟨n, x⟩ rest b s' ⟨hb, rfl, hr⟩
    obtain ⟨k, hk, _⟩ := hr (n, x) List.mem_cons_self
    dsimp only
    rw [key_quiet hk]
    refine wpAny_bind (wpAny_pure ?_)
    simp only [Bool.not_true, Bool.false_eq_true, if_false]
    exact wpAny_pure ⟨rfl, rfl, fun e he => hr e (List.mem_cons_of_mem _ he)⟩
  · rintro ⟨b1, b2⟩ s' ⟨hb, rfl, _⟩
    dsimp only at hb
    subst hb
    exact wpAny_pure (h _ good perm)
/-- whether all of the one are in the other -/
theorem set_subset {Q : Bool → Shared → Prop} {nm : String} (Ra : SetM P w s.heap a ks) (Rb : SetM P w s.heap b ls) (len : ks.length ≤ ls.length) (h : ∀ r : Bool, (r = true ↔ ∀ k ∈ ks, k ∈ ls) → Q r s) : wpAny (model P w) A (Builtin.Frozenset.subsetOf nm a b) Q E s := by
  have Sb := SetM.setOf Rb
  have Qa := Ra
  have Qb := Rb
  obtain ⟨o, es, ep, t, ho, hex, hd, good, perm, nd, small, fit, ris, led⟩ := Ra
  obtain ⟨o2, es2, ep2, t2, ho2, hex2, hd2, good2, perm2, nd2, small2, fit2, ris2, led2⟩ := Rb
  have e1 : es.size = ks.length := by rw [← perm.length_eq, List.length_map, Array.length_toList]
  have e2 : es2.size = ls.length := by rw [← perm2.length_eq, List.length_map, Array.length_toList]
  unfold Builtin.Frozenset.subsetOf Builtin.Frozenset.sizeOf
  refine wpAny_bind (wpAny_bind (wpAny_setEntries_of ho hd fit (wpAny_pure ?_)))
  refine wpAny_bind (wpAny_bind (wpAny_setEntries_of ho2 hd2 fit2 (wpAny_pure ?_)))
  rw [if_neg (by omega)]
  refine wpAny_bind (wpAny_setEpoch_of ho hd fit ?_)
  refine wpAny_bind (set_quiet Qa Qb fun us goodU permU => ?_)
  have memU : ∀ k, k ∈ ks ↔ ∃ e ∈ us, kOf e = k := fun k => by rw [← permU.mem_iff, List.mem_map]
  refine wpAny_bind (wpAny_forIn_list _ (fun rest r s' => r.1 = none ∧ s' = s ∧ ∃ pre, us = pre ++ rest ∧ ∀ e ∈ pre, kOf e ∈ ls) _ ?_ ?_ _ _ ⟨rfl, rfl, [], rfl, by simp⟩)
  · rintro ⟨n, x⟩ rest r s' ⟨hb, rfl, pre, eu, hp⟩
    have hmem : (n, x) ∈ us := by rw [eu]; exact List.mem_append_right _ List.mem_cons_self
    obtain ⟨k, hk, hn⟩ := goodU (n, x) hmem
    have ek : kOf (n, x) = k := kOf_of hk
    have hn : n = keyH w k := hn
    subst hn
    dsimp only
    refine wpAny_bind (wpAny_holding (wpAny_setFind_of (knd := mixKind P w) (k := k) hk (scan_of hk) Sb fun q hq => ?_))
    cases q with
    | none =>
      simp only [Option.isNone_none, if_true]
      have no : ¬ k ∈ ls := fun z => by
        have z2 : @decide (k ∈ ls) (Classical.propDecidable _) = true := (@decide_eq_true_iff _ (Classical.propDecidable _)).mpr z
        rw [z2] at hq
        cases hq
      refine wpAny_pure (wpAny_pure (h false ⟨fun z => (nomatch z), fun z => absurd (z k ((memU k).mpr ⟨_, hmem, ek⟩)) no⟩))
    | some q =>
      simp only [Option.isNone_some, Bool.false_eq_true, if_false]
      have yes : k ∈ ls := (@decide_eq_true_iff _ (Classical.propDecidable _)).mp hq.symm
      unfold Builtin.Frozenset.unchanged
      refine wpAny_bind (wpAny_bind (wpAny_setEpoch_of ho hd fit ?_))
      rw [if_neg (by simp)]
      refine wpAny_pure (wpAny_pure ⟨rfl, rfl, pre ++ [(keyH w k, x)], by rw [eu, List.append_assoc]; rfl, fun e he => ?_⟩)
      rcases List.mem_append.mp he with he | he
      · exact hp e he
      · rw [List.mem_singleton.mp he, ek]
        exact yes
  · rintro ⟨b1, b2⟩ s' ⟨hb, rfl, pre, eu, hp⟩
    dsimp only at hb
    subst hb
    rw [List.append_nil] at eu
    refine wpAny_pure (h true ⟨fun _ k hk => ?_, fun _ => rfl⟩)
    obtain ⟨e, he, rfl⟩ := (memU k).mp hk
    rw [eu] at he
    exact hp e he
/-- s == t, two sets of keys -/
theorem set_same {Q : Value → Shared → Prop} (Ra : SetM P w s.heap a ks) (Rb : SetM P w s.heap b ls) (hu : A.units < cLine) (h : ∀ r : Bool, (r = true ↔ ∀ k, k ∈ ks ↔ k ∈ ls) → Q (.bool r) s) : wpAny (model P w) A (compareOp .Eq (.ref a) (.ref b)) Q E s := by
  have Qa := Ra
  have Qb := Rb
  have nda := Ra.nodup
  have ndb := Rb.nodup
  obtain ⟨o, es, ep, t, ho, hex, hd, good, perm, nd, small, fit, ris, led⟩ := Ra
  obtain ⟨o2, es2, ep2, t2, ho2, hex2, hd2, good2, perm2, nd2, small2, fit2, ris2, led2⟩ := Rb
  have e1 : es.size = ks.length := by rw [← perm.length_eq, List.length_map, Array.length_toList]
  have e2 : es2.size = ls.length := by rw [← perm2.length_eq, List.length_map, Array.length_toList]
  have Ta : s.TypeIs (.ref a) "set" := ⟨o, ho, hex.1⟩
  have Tb : s.TypeIs (.ref b) "set" := ⟨o2, ho2, hex2.1⟩
  refine wpAny_richCompare_same_room (op := .Eq) Ta Tb PySem.F.slot_set_eq (wpAny_call_entry PySem.F.slot_set_eq Ta entry_seteq ?_ (PySem.F.args_set_eq_2 _ _)) hu
  unfold Builtin.«frozenset.__eq__»
  show wpAny _ _ (Builtin.Frozenset.slot1 "__eq__" ⟨[.ref a, .ref b], []⟩ >>= _) _ _ _
  refine wpAny_bind (wpAny_of_eq (a := (Value.ref a, Value.ref b)) (by rfl) ?_)
  dsimp only
  have anyB : ∀ {Q' : Bool → Shared → Prop} {A' : Around}, Q' true s → wpAny (model P w) A' (Builtin.Frozenset.isAnySet (.ref b)) Q' E s := fun {Q' A'} q => by
    unfold Builtin.Frozenset.isAnySet
    refine wpAny_bind (wpAny_isInstance (b := true) Tb sub_set_self ?_)
    exact wpAny_pure q
  refine wpAny_bind (anyB ?_)
  simp only [Bool.not_true, Bool.false_eq_true, if_false]
  unfold Builtin.Frozenset.addrOf Builtin.Frozenset.sizeOf
  refine wpAny_bind (wpAny_pure ?_)
  refine wpAny_bind (wpAny_pure ?_)
  refine wpAny_bind (wpAny_bind (wpAny_setEntries_of ho hd fit (wpAny_pure ?_)))
  refine wpAny_bind (wpAny_bind (wpAny_setEntries_of ho2 hd2 fit2 (wpAny_pure ?_)))
  have close : ∀ r : Bool, (r = true ↔ ∀ k, k ∈ ks ↔ k ∈ ls) → wpAny (model P w) A.in1 (ret (Value.bool r)) (fun fin s' => ∃ v, fin = Fin.done (Flow.ret v) ∧ v ≠ Value.notImplemented ∧ Q v s') E s := fun r hr => wpAny_pure ⟨_, rfl, (by intro z; cases z), h r hr⟩
  refine wpAny_bind ?_
  by_cases ne : es.size = es2.size
  · rw [if_neg (by simp [ne])]
    have iso : ∀ {Q' : Bool → Shared → Prop}, Q' false s → wpAny (model P w) A.in1 (isInstance (Value.ref a) (Value.type "frozenset") <&&> isInstance (Value.ref b) (Value.type "frozenset")) Q' E s := fun {Q'} q => by
      refine wpAny_bind (wpAny_isInstance (b := false) Ta sub_frozen ?_)
      exact wpAny_pure q
    refine wpAny_bind (iso ?_)
    simp only [Bool.false_eq_true, if_false]
    refine set_subset Qa Qb (by omega) fun r hr => close r ?_
    rw [hr]
    constructor
    · intro sub k
      refine ⟨sub k, fun hk => ?_⟩
      exact @pigeon Key (Classical.typeDecidableEq Key) ks ls nda sub (by omega) k hk
    · exact fun z k hk => (z k).mp hk
  · rw [if_pos (by simp [ne])]
    refine wpAny_pure (close false ⟨fun z => (nomatch z), fun z => absurd ?_ ne⟩)
    have p := (List.perm_ext_iff_of_nodup nda ndb).mpr z
    have := p.length_eq
    omega
/-- s == t over the layer -/
def rEqM (P : Program) (w : World) : R2 := fun x y H Q => ∃ (a b : Addr) (ks ls : List Key), x = .ref a ∧ y = .ref b ∧ H a = some (SetMO P w a ks) ∧ H b = some (SetMO P w b ls) ∧ ∀ r : Bool, (r = true ↔ ∀ k, k ∈ ks ↔ k ∈ ls) → Q (.bl r) H
theorem op_eqM {X : Cx} (hu : X.A.units < cLine) : OpR X (compareOp .Eq) (rEqM X.prog X.w) := by
  intro pins s σ H x y v u Q I rx ry h
  obtain ⟨a, b, ks, ls, rfl, rfl, ha, hb, q⟩ := h
  obtain rfl : v = Value.ref a := rx
  obtain rfl : u = Value.ref b := ry
  exact set_same (setM_get I ha) (setM_get I hb) hu fun r hr => ⟨.bl r, H, I, rfl, q r hr⟩
end
end Cut
set_option Elab.async false
set_option linter.all false
set_option maxRecDepth 100000
set_option maxHeartbeats 8000000
namespace Cut
open PySem PySem.Spec PyProof.Rows L2
/-! ### a law whose def makes texts of objects -/
/-- how a law's call ends -/
abbrev EndsTrue (t : Shared) : Result → Shared → Prop := fun r s' => r = .ok (.ret (.bool true)) ∧ OldK t.heap s'.heap ∧ s'.os = t.os ∧ AllBare s'.gens
section
variable {P : Program} {w : World} {K : PySem.W.Frag} {mg mb : Str → Option Value} {CX : CXT} {k : Nat} {fa a : Addr} {fd : FuncData} {x : Str} {sp : Sp} {t : Shared} {vs : List Value} {ns : List Int}
theorem call_from {H : Hp} (KX : K.In t.heap) (hns : t.heap.Ns mainGlobals mg) (hb : t.heap.Ns builtinsNs mb) (hbb : ∀ x : Str, x ≠ "__name__" → mb x = bootBuiltins x) (hlim : t.heap.NoLimit) (hg : t.gens = #[])
    (ha : t.heap.get? a = some { cls := .type "list", data := .seq vs.toArray }) (hr : Room k callerA)
    (F : ∀ base : Heap, K.In base → base.Ns mainGlobals mg → FnG P w K mg base CX k fa fd [x] sp) (hbind : ∀ (s : Shared) (u : Value), BindsTo s fd ⟨[u], []⟩ [(x, u)])
    (due : sp [.ref a] H (fun v _ => v = .bl true) fun _ _ _ => False) (hCX : ∀ H e s', CX [] H t (fun _ _ _ => False) e s' → False)
    (only : Only H) (ok : HOk P w H t.heap) (alone : ∀ b, H b ≠ none → b = a) (apart : H a ≠ none → K.lookup a = none) : codeAny (model P w) callerA (.call (.ref fa) ⟨[.ref a], []⟩) (EndsTrue t) t := by
  -- what is no list is not hidden
  have plain : ∀ {b : Addr} {o : Obj} {es : Array DictEntry} {ep : Nat}, t.heap.get? b = some o → o.data = .dict es ep → H b = none := fun {b o es ep} eb ed => by
    by_cases c : H b = none
    · exact c
    · have eba := alone b c
      rw [eba, ha] at eb
      cases eb
      cases ed
  have part : K.In (hidT t.heap H) := fun b o eb => by
    refine hidT_get (KX b o eb) ?_
    by_cases c : H b = none
    · exact c
    · have eba := alone b c
      rw [eba] at eb c
      rw [apart c] at eb
      cases eb
  have nsH : ∀ {b : Addr} {m : Str → Option Value}, t.heap.Ns b m → (hidT t.heap H).Ns b m := fun {b m} z => by
    obtain ⟨o, es, ep, g1, g2, g3⟩ := z
    exact ⟨o, es, ep, hidT_get g1 (plain g1 g2), g2, g3⟩
  obtain ⟨mc, l1, l2⟩ := hlim
  have start : Env0 P w K mg (hidT t.heap H) callerA [] t H :=
    ⟨rfl, ⟨part, nsH hns, ⟨mb, nsH hb, hbb⟩, ⟨mc, nsH l1, l2⟩⟩, fun b o eb => of_hidT eb, Nat.le_of_eq (hidT_size _ _), trivial, fun b h => absurd (show b ∈ ([] : List Addr) from h) (by simp), ok, .of_eq hg⟩
  refine codeAny_mono ((F _ part (nsH hns)).go callerA [] t H ⟨[.ref a], []⟩ [.ref a] [.ref a] _ _ rfl hr start (hbind t (.ref a)) (.cons rfl .nil) due) fun r s' h => ?_
  match r, h with
  | .error e, h => exact (hCX H e s' h).elim
  | .ok .next, h => exact False.elim h
  | .ok .brk, h => exact False.elim h
  | .ok .cont, h => exact False.elim h
  | .ok (.ret u), h =>
    obtain ⟨v, H', os, bare, un, ok', rv, e⟩ := h
    have e : v = .bl true := e
    subst e
    obtain rfl : u = Value.bool true := rv
    refine ⟨rfl, OldK.of_keep fun b o eb => ?_, os, bare⟩
    rcases only b with c | ⟨ob, xs, c⟩
    · exact un.keep b o eb c (fun z => absurd (show b ∈ ([] : List Addr) from z) (by simp)) (by simp)
    · have c2 := un.frzs b ob _ c
      obtain ⟨g1, _⟩ := ok b _ c
      obtain ⟨g2, _⟩ := ok' b _ c2
      rw [eb] at g1
      cases g1
      exact g2
theorem law_callG (KX : K.In t.heap) (hns : t.heap.Ns mainGlobals mg) (hb : t.heap.Ns builtinsNs mb) (hbb : ∀ x : Str, x ≠ "__name__" → mb x = bootBuiltins x) (hlim : t.heap.NoLimit) (hg : t.gens = #[])
    (ha : t.heap.get? a = some { cls := .type "list", data := .seq vs.toArray }) (hi : IntsAre vs ns) (hl : ns.length ≤ sizeLine) (hr : Room k callerA)
    (F : ∀ base : Heap, K.In base → base.Ns mainGlobals mg → FnG P w K mg base CX k fa fd [x] sp) (hbind : ∀ (s : Shared) (u : Value), BindsTo s fd ⟨[u], []⟩ [(x, u)])
    (hsp : ∀ H : Hp, Only H → SqL K H a (ns.map V.int) → sp [.ref a] H (fun v _ => v = .bl true) fun _ _ _ => False)
    (hCX : ∀ H e s', CX [] H t (fun _ _ _ => False) e s' → False) : codeAny (model P w) callerA (.call (.ref fa) ⟨[.ref a], []⟩) (EndsTrue t) t := by
  have rv := vals_ints hi
  cases hk : K.lookup a with
  | some o =>
    have ea := KX a o hk
    rw [ha] at ea
    cases ea
    have noneH : Only (fun _ => none : Hp) := fun _ => .inl rfl
    refine call_from (H := fun _ => none) KX hns hb hbb hlim hg ha hr F hbind (hsp _ noneH (.inr ⟨_, vs.toArray, _, hk, rfl, rfl, rfl, ?_, by simpa using rv⟩)) hCX noneH (fun b u z => (nomatch (show (none : Option HO) = some u from z))) (fun b z => absurd rfl z) fun z => absurd rfl z
    rw [List.size_toArray, hi.length]
    exact hl
  | none =>
    obtain ⟨H, eH⟩ : ∃ H : Hp, H = fun b => if b = a then some (.frz { cls := .type "list", data := .seq vs.toArray } (.lst (ns.map V.int))) else none := ⟨_, rfl⟩
    have at_a : H a = some (.frz { cls := .type "list", data := .seq vs.toArray } (.lst (ns.map V.int))) := by rw [eH]; exact if_pos rfl
    have off_a : ∀ b, b ≠ a → H b = none := fun b n => by rw [eH]; exact if_neg n
    have onlyH : Only H := fun b => by
      by_cases c : b = a
      · exact .inr ⟨_, _, by rw [c]; exact at_a⟩
      · exact .inl (off_a b c)
    refine call_from (H := H) KX hns hb hbb hlim hg ha hr F hbind (hsp H onlyH (.inl (.inr ⟨_, at_a⟩))) hCX onlyH (fun b u z => ?_) (fun b z => ?_) fun _ => hk
    · by_cases c : b = a
      · rw [c, at_a] at z
        cases z
        rw [c]
        exact ⟨ha, by rw [List.length_map]; exact hl, vs, _, rv, ha⟩
      · rw [off_a b c] at z
        cases z
    · by_cases c : b = a
      · exact c
      · exact absurd (off_a b c) z
end
/-- the goal that the head leaves, from a promise that holds where no text is being made -/
theorem walk_ofG {l : PySem.W.OpenLaw} {n k : Nat} {q : Program} {loose : List Str} {XP : (Str → Option Value) → Heap → Prop} {YP : World → Heap → Prop} {d : DefRec} {K : Params → PySem.W.Frag} {CX : World → CXT} {sp : World → Sp} {x : Str}
    (most : l.most = some n) (fits : n ≤ sizeLine) (noDef : d.params.defaults = []) (hr : Room k callerA) (hY : ∀ (w : World) (h : Heap), YP w h → (K w.params).In h)
    (F : ∀ (w : World) (mg : Str → Option Value) (fa : Addr) (h : Heap), (K w.params).In h → h.Ns mainGlobals mg → mg d.name = some (.ref fa) →
      ∃ fd : FuncData, (∀ (s : Shared) (u : Value), BindsTo s fd ⟨[u], []⟩ [(x, u)]) ∧ ∀ base : Heap, (K w.params).In base → base.Ns mainGlobals mg → FnG l.prog w (K w.params) mg base (CX w) k fa fd [x] (sp w))
    (hsp : ∀ (w : World) (H : Hp) (a : Addr) (ns : List Int), ns.length ≤ n → Only H → SqL (K w.params) H a (ns.map V.int) → sp w [.ref a] H (fun v _ => v = .bl true) fun _ _ _ => False)
    (hCX : ∀ (w : World) (H : Hp) (s : Shared) (e : Value) (s' : Shared), CX w [] H s (fun _ _ _ => False) e s' → False) :
    PySem.W.WalkO q loose XP YP l.row.toRowW d [] (fun f vs => PySem.call f vs) := by
  refine Att.attach_call most noDef fun w s₀ t mg mb fa o pm cd doc a vs ns G Y ho hd hcd hmg hobj hints hlen hg => ?_
  have KX := hY w _ Y
  obtain ⟨fd, bind, hF⟩ := F w mg fa _ KX G.T.g hmg
  exact law_callG KX G.T.g G.T.b G.T.builtins G.T.nolimit hg hobj hints (Nat.le_trans hlen fits) hr hF bind (fun H only hS => hsp w H a ns hlen only hS) fun H e s' => hCX w H t e s'
end Cut
set_option Elab.async false
set_option linter.all false
set_option maxRecDepth 100000
set_option maxHeartbeats 8000000
namespace Cut
open PySem PySem.Spec PyProof.Rows L2
theorem scSame : FnScope ["one", "other"] ["one", "other"] (defScope sSame) := ⟨rfl, rfl, rfl, by decide +kernel, rfl, by decide +kernel, by decide +kernel⟩
/-- data whose text can be told -/
structure Told (d : PyData) : Prop where
  sh : SeqAt.shaped d = true
  ok : d.showable = true
  len : d.shown.length ≤ sizeLine
section
variable {P : Program} {w : World} {K : PySem.W.Frag} {mg : Str → Option Value} {base : Heap}
def spSame (K : PySem.W.Frag) : Sp := fun vs H Q _ => ∃ (x y : V) (d e : PyData), vs = [x, y] ∧ Dp K H x d ∧ Dp K H y e ∧ Told d ∧ Told e ∧ Q (.bl (decide (d.shown = e.shown))) H
theorem ok_same {f : Addr} {fd : FuncData} (F : Fun K "_law_same" "_law_same" sSame f fd) (B : Blt mg) : FnG P w K mg base CX0 1 f fd ["one", "other"] (spSame K) := by
  refine okG F scSame (fun vs H Q E h => ?_) (fun cdv A outer s H vs Q E hg hr h => ?_)
  · obtain ⟨x, y, d, e, rfl, _⟩ := h
    rfl
  · obtain ⟨x, y, d, e, rfl, dx, dy, td, te, q⟩ := h
    refine ⟨_, pss_one (ps_ret (pe_cmpR op_eq (pe_callB (id := "repr") (r := rRepr K) (call_repr hg hr) (by rfl) B.repr (by decide +kernel) (pa_cons (pv 0) pa_nil)) (pe_callB (id := "repr") (r := rRepr K) (call_repr hg hr) (by rfl) B.repr (by decide +kernel) (pa_cons (pv 1) pa_nil)) (nomark _))), ?_⟩
    refine ⟨_, rfl, x, d, rfl, dx, td.sh, td.ok, td.len, _, rfl, y, e, rfl, dy, te.sh, te.ok, te.len, rfl, ?_⟩
    have e1 : decide (V.str d.shown = V.str e.shown) = decide (d.shown = e.shown) := by
      by_cases h : d.shown = e.shown
      · simp [h]
      · rw [decide_eq_false h, decide_eq_false fun z => h (V.str.inj z)]
    rw [e1]
    exact q
end
end Cut
set_option Elab.async false
set_option linter.all false
set_option maxRecDepth 100000
set_option maxHeartbeats 4000000
namespace Cut
open PySem PySem.Spec PyProof.Rows L2
/-! ### how long texts of data can be -/
mutual
def wB : PyData → Nat
  | .tuple xs => wBs xs + 4
  | .list xs => wBs xs + 4
  | .dict kvs => wBk kvs + 4
  | .none => PyData.none.shown.length
  | .bool b => (PyData.bool b).shown.length
  | .int i => (PyData.int i).shown.length
  | .str x => (PyData.str x).shown.length
def wBs : List PyData → Nat
  | [] => 0
  | x :: r => wB x + 2 + wBs r
def wBk : List (PyData × PyData) → Nat
  | [] => 0
  | (k, v) :: r => wB k + wB v + 4 + wBk r
end
theorem join_le (ts : List Str) : (Str.join ", " ts).length ≤ piled ts := by
  by_cases h : ts = []
  · subst h
    exact Nat.zero_le _
  · have := join_length_add ts h
    omega
theorem tuple_le (ts : List Str) : (tupleText ts).length ≤ piled ts + 3 := by
  unfold tupleText
  rw [strLen_append, strLen_append]
  have h1 := join_le ts
  have h2 : (("(" : String) : Str).length = 1 := rfl
  have h3 : ((if ts.length == 1 then ",)" else ")" : String) : Str).length ≤ 2 := by
    split
    · exact Nat.le_refl 2
    · exact (by decide : 1 ≤ 2)
  omega
theorem dict_le (ts : List Str) : (dictText ts).length ≤ piled ts + 2 := by
  unfold dictText
  rw [strLen_append, strLen_append]
  have h1 := join_le ts
  have h2 : (("{" : String) : Str).length = 1 := rfl
  have h3 : (("}" : String) : Str).length = 1 := rfl
  omega
theorem from_le : ∀ (ts : List Str) (k : Nat) (acc : Str), (textFrom k acc ts).length ≤ acc.length + piled ts
  | [], k, acc => Nat.le_add_right _ _
  | t :: r, k, acc => by
    have ih := from_le r (k + 1) (acc ++ (if k > 0 then ", " else "" : String) ++ t)
    have e : (acc ++ ((if k > 0 then ", " else "" : String) : Str) ++ t).length ≤ acc.length + 2 + t.length := by
      rw [strLen_append, strLen_append]
      have h3 : ((if k > 0 then ", " else "" : String) : Str).length ≤ 2 := by
        split
        · exact Nat.le_refl 2
        · exact Nat.zero_le 2
      omega
    have p : piled (t :: r) = t.length + 2 + piled r := by simp [piled]
    show (textFrom (k + 1) (acc ++ ((if k > 0 then ", " else "" : String) : Str) ++ t) r).length ≤ _
    omega
theorem list_le (ts : List Str) : (listText ts).length ≤ piled ts + 2 := by
  unfold listText
  rw [strLen_append]
  have h1 := from_le ts 0 "["
  have h2 : (("[" : String) : Str).length = 1 := rfl
  have h3 : (("]" : String) : Str).length = 1 := rfl
  omega
mutual
theorem shown_le : ∀ d : PyData, d.shown.length ≤ wB d
  | .tuple xs => by
    have h := shownAll_le xs
    have h2 := tuple_le (PyData.shownAll xs)
    simp only [PyData.shown, wB]
    omega
  | .list xs => by
    have h := shownAll_le xs
    have h2 := list_le (PyData.shownAll xs)
    simp only [PyData.shown, wB]
    omega
  | .dict kvs => by
    have h := shownKv_le kvs
    have h2 := dict_le (PyData.shownKv kvs)
    simp only [PyData.shown, wB]
    omega
  | .none => by simp only [wB]; exact Nat.le_refl _
  | .bool b => by simp only [wB]; exact Nat.le_refl _
  | .int i => by simp only [wB]; exact Nat.le_refl _
  | .str x => by simp only [wB]; exact Nat.le_refl _
theorem shownAll_le : ∀ xs : List PyData, piled (PyData.shownAll xs) ≤ wBs xs
  | [] => by simp [PyData.shownAll, piled, wBs]
  | x :: r => by
    have h1 := shown_le x
    have h2 := shownAll_le r
    have p : piled (x.shown :: PyData.shownAll r) = x.shown.length + 2 + piled (PyData.shownAll r) := by simp [piled]
    simp only [PyData.shownAll, wBs, p]
    omega
theorem shownKv_le : ∀ xs : List (PyData × PyData), piled (PyData.shownKv xs) ≤ wBk xs
  | [] => by simp [PyData.shownKv, piled, wBk]
  | (k, v) :: r => by
    have h1 := shown_le k
    have h2 := shown_le v
    have h3 := shownKv_le r
    have e : (k.shown ++ ((": " : String) : Str) ++ v.shown).length = k.shown.length + 2 + v.shown.length := by
      rw [strLen_append, strLen_append]
      rfl
    have p : piled ((k.shown ++ ((": " : String) : Str) ++ v.shown) :: PyData.shownKv r) = (k.shown ++ ((": " : String) : Str) ++ v.shown).length + 2 + piled (PyData.shownKv r) := by simp [piled]
    simp only [PyData.shownKv, wBk]
    rw [p, e]
    omega
end
end Cut
set_option Elab.async false
set_option linter.all false
set_option maxRecDepth 100000
set_option maxHeartbeats 4000000
namespace Cut
open PySem PySem.Spec PyProof.Rows L2
/-! ### questions as data -/
def NM : List Str := LT ++ TB
theorem nm_ok : ∀ x ∈ NM, PyData.strOk x = true ∧ (PyData.str x).shown.length ≤ 8 := fun x h => by
  have z := List.all_eq_true.mp (by decide +kernel : (NM.all fun x => PyData.strOk x && decide ((PyData.str x).shown.length ≤ 8)) = true) x h
  rw [Bool.and_eq_true] at z
  exact ⟨z.1, of_decide_eq_true z.2⟩
def okK : Key → Prop
  | .inl i => 0 ≤ i ∧ i ≤ 2
  | .inr x => x ∈ NM
def atomD (t : Atm) : PyData := .tuple [.str t.1, .tuple (t.2.map dK)]
def qD (head : List Str) (ats : List Atm) : PyData := .tuple [.tuple (head.map .str), .tuple (ats.map atomD)]
theorem small_int {i : Int} (h : 0 ≤ i ∧ i ≤ 2) : (PyData.int i).shown.length ≤ 8 ∧ (PyData.int i).showable = true := by
  have e : i = 0 ∨ i = 1 ∨ i = 2 := by omega
  rcases e with rfl | rfl | rfl <;> exact ⟨by decide +kernel, by decide +kernel⟩
/-- data that may be laid out, with its depth -/
structure Fit (d : PyData) (n m : Nat) : Prop where
  lay : d.canLay0 = true
  dep : d.depth ≤ n
  ok : d.showable = true
  len : wB d ≤ m
structure Fits (ds : List PyData) (n m : Nat) : Prop where
  lay : PyData.canLayAll0 ds = true
  dep : PyData.depthAll ds ≤ n
  ok : PyData.showableAll ds = true
  len : wBs ds ≤ m
theorem Fits.nil (n m : Nat) : Fits [] n m := ⟨by simp [PyData.canLayAll0], by simp [PyData.depthAll], by simp [PyData.showableAll], by simp [wBs]⟩
theorem Fits.cons {d : PyData} {ds : List PyData} {n a b : Nat} (h : Fit d n a) (t : Fits ds n b) : Fits (d :: ds) n (a + 2 + b) := by
  refine ⟨?_, ?_, ?_, ?_⟩
  · simp only [PyData.canLayAll0, h.lay, t.lay, Bool.and_self]
  · have h1 := h.dep
    have h2 := t.dep
    simp only [PyData.depthAll]
    omega
  · simp only [PyData.showableAll, h.ok, t.ok, Bool.and_self]
  · have h1 := h.len
    have h2 := t.len
    simp only [wBs]
    omega
theorem Fits.tup {ds : List PyData} {n m : Nat} (h : Fits ds n m) : Fit (.tuple ds) (n + 1) (m + 4) := by
  refine ⟨?_, ?_, ?_, ?_⟩
  · simp only [PyData.canLay0, h.lay]
  · have := h.dep
    simp only [PyData.depth]
    omega
  · simp only [PyData.showable, h.ok]
  · have := h.len
    simp only [wB]
    omega
theorem Fit.mono {d : PyData} {n m n' m' : Nat} (h : Fit d n m) (a : n ≤ n') (b : m ≤ m') : Fit d n' m' := ⟨h.lay, Nat.le_trans h.dep a, h.ok, Nat.le_trans h.len b⟩
theorem Fits.of {n m : Nat} : ∀ {ds : List PyData}, (∀ d ∈ ds, Fit d n m) → Fits ds n ((m + 2) * ds.length)
  | [], _ => Fits.nil _ _
  | d :: r, h => by
    have t := Fits.cons (h d List.mem_cons_self) (Fits.of (n := n) (m := m) (ds := r) fun x hx => h x (List.mem_cons_of_mem _ hx))
    have e : (m + 2) * (d :: r).length = m + 2 + (m + 2) * r.length := by rw [List.length_cons, Nat.mul_add]; omega
    rw [e]
    exact t
theorem Fit.told {d : PyData} {n m : Nat} (h : Fit d n m) (a : n ≤ 60) (b : m ≤ 1000000) : Told d := by
  refine ⟨?_, h.ok, ?_⟩
  · show (d.canLay0 && decide (d.depth ≤ 64)) = true
    rw [h.lay, decide_eq_true (by have := h.dep; omega : d.depth ≤ 64)]
    rfl
  · refine Nat.le_trans (shown_le d) (Nat.le_trans h.len (Nat.le_trans b ?_))
    rw [sizeLine_eq]
    decide
theorem name_fit {x : Str} (h : x ∈ NM) : Fit (.str x) 1 8 := by
  have z := nm_ok x h
  exact ⟨by simp only [PyData.canLay0, z.1], by simp only [PyData.depth]; omega, by simp only [PyData.showable], by simp only [wB]; exact z.2⟩
theorem key_fit {k : Key} (h : okK k) : Fit (dK k) 1 8 := by
  cases k with
  | inl i =>
    have z := small_int h
    exact ⟨by simp only [dK, PyData.canLay0], by simp only [dK, PyData.depth]; omega, z.2, by simp only [dK, wB]; exact z.1⟩
  | inr x => exact name_fit h
theorem atom_fit {t : Atm} (h1 : t.1 ∈ NM) (h2 : ∀ k ∈ t.2, okK k) (h3 : t.2.length ≤ 6) : Fit (atomD t) 3 100 := by
  have p : Fits (t.2.map dK) 1 ((8 + 2) * (t.2.map dK).length) := Fits.of fun d hd => by
    obtain ⟨k, hk, rfl⟩ := List.mem_map.mp hd
    exact key_fit (h2 k hk)
  rw [List.length_map] at p
  have q := p.tup
  exact (Fits.cons ((name_fit h1).mono (by omega) (Nat.le_refl _)) (Fits.cons (q.mono (Nat.le_refl _) (Nat.le_refl _)) (Fits.nil 2 0))).tup.mono (by omega) (by omega)
theorem q_fit {head : List Str} {ats : List Atm} (hh : ∀ x ∈ head, x ∈ NM) (hl : head.length ≤ 8) (ha : ∀ t ∈ ats, t.1 ∈ NM ∧ (∀ k ∈ t.2, okK k) ∧ t.2.length ≤ 6) (al : ats.length ≤ 6) : Fit (qD head ats) 6 1000 := by
  have p : Fits (head.map .str) 1 ((8 + 2) * (head.map PyData.str).length) := Fits.of fun d hd => by
    obtain ⟨k, hk, rfl⟩ := List.mem_map.mp hd
    exact name_fit (hh k hk)
  have r : Fits (ats.map atomD) 3 ((100 + 2) * (ats.map atomD).length) := Fits.of fun d hd => by
    obtain ⟨t, ht, rfl⟩ := List.mem_map.mp hd
    obtain ⟨a, b, c⟩ := ha t ht
    exact atom_fit a b c
  rw [List.length_map] at p r
  exact (Fits.cons (p.tup.mono (by omega : 2 ≤ 4) (Nat.le_refl _)) (Fits.cons r.tup (Fits.nil 4 0))).tup.mono (by omega) (by omega)
theorem atoms_dp {K : PySem.W.Frag} {H : Hp} : ∀ {vs : List V} {ats : List Atm}, AtsAt K H vs ats → DpAll K H vs (ats.map atomD)
  | _, _, .nil => .nil
  | _, _, .cons ⟨a, p, e, h1, h2⟩ r => .cons (by rw [e]; exact .tup h1 (.cons (.str _) (.cons (.tup h2 (keys_dp _)) .nil))) (atoms_dp r)
theorem q_dp {K : PySem.W.Frag} {H : Hp} {q : Addr} {head : List Str} {ats : List Atm} (h : QAt K H q head ats) : Dp K H (.ref q) (qD head ats) := by
  obtain ⟨hd, s, vs, h1, h2, h3, h4⟩ := h
  exact .tup h1 (.cons (.tup h2 (strs_dp head)) (.cons (.tup h3 (atoms_dp h4)) .nil))
end Cut
set_option Elab.async false
set_option linter.all false
set_option maxRecDepth 100000
set_option maxHeartbeats 4000000
namespace Cut
open PySem PySem.Spec PyProof.Rows L2
/-! ### what drawn questions and prices are like -/
structure GoodQ (ats : List Atm) : Prop where
  one : 1 ≤ ats.length
  many : ats.length ≤ 6
  few : ∀ t ∈ ats, 1 ≤ t.2.length ∧ t.2.length ≤ 4
  parts : ∀ t ∈ ats, ∀ k ∈ t.2, okK k
  dist : (ats.map (·.1)).Nodup
  tabs : ∀ t ∈ ats, t.1 ∈ TB
theorem GoodQ.few6 {ats : List Atm} (h : GoodQ ats) : Few ats := ⟨h.many, fun t ht => Nat.le_trans (h.few t ht).2 (by decide)⟩
theorem tb_nm {x : Str} (h : x ∈ TB) : x ∈ NM := List.mem_append_right _ h
theorem lt_nm {x : Str} (h : x ∈ LT) : x ∈ NM := List.mem_append_left _ h
theorem Raw.good {ats : List Atm} {nm : Str} (r : Raw ats) (one : 1 ≤ ats.length) (hn : nm = "x" ∨ nm = "y" ∨ ∃ t ∈ ats, nm = t.1) : GoodQ (ats.map (subA nm)) := by
  have hnm : nm ∈ NM := by
    rcases hn with rfl | rfl | ⟨t, ht, rfl⟩
    · exact lt_nm (by decide)
    · exact lt_nm (by decide)
    · exact tb_nm (r.tabs.2 t ht)
  have e : (ats.map (subA nm)).map (·.1) = ats.map (·.1) := by
    rw [List.map_map]
    rfl
  refine ⟨by rw [List.length_map]; exact one, by rw [List.length_map]; exact r.many, fun t ht => ?_, fun t ht k hk => ?_, by rw [e]; exact r.tabs.1, fun t ht => ?_⟩
  · obtain ⟨u, hu, rfl⟩ := List.mem_map.mp ht
    have := r.few u hu
    show 1 ≤ (u.2.map (sub1 nm)).length ∧ (u.2.map (sub1 nm)).length ≤ 4
    rw [List.length_map]
    exact this
  · obtain ⟨u, hu, rfl⟩ := List.mem_map.mp ht
    obtain ⟨j, hj, rfl⟩ := List.mem_map.mp hk
    have ok := r.parts u hu j hj
    cases j with
    | inl i => exact ok
    | inr x =>
      have ok : x ∈ LT := ok
      show okK (if x = "x" then .inr nm else .inr x)
      split
      · exact hnm
      · exact lt_nm ok
  · obtain ⟨u, hu, rfl⟩ := List.mem_map.mp ht
    exact r.tabs.2 u hu
theorem GoodQ.fit {ats : List Atm} (h : GoodQ ats) {head : List Str} (hh : ∀ x ∈ head, x ∈ NM) (hl : head.length ≤ 8) : Fit (qD head ats) 6 1000 :=
  q_fit hh hl (fun t ht => ⟨tb_nm (h.tabs t ht), h.parts t ht, Nat.le_trans (h.few t ht).2 (by decide)⟩) h.many
/-- a price as data -/
def vD : V → PyData
  | .int i => .int i
  | _ => .none
theorem price_fit {v : V} (h : okV v) : Fit (vD v) 1 40 ∧ (∀ {K : PySem.W.Frag} {H : Hp}, Dp K H v (vD v)) ∧ flatD (vD v) = true := by
  rcases h with rfl | ⟨i, rfl, hi⟩
  · exact ⟨⟨by decide +kernel, by decide +kernel, by decide +kernel, by decide +kernel⟩, .non, rfl⟩
  · refine ⟨⟨by simp only [vD, PyData.canLay0], by simp only [vD, PyData.depth]; omega, ?_, ?_⟩, .int i, by simp only [vD, flatD]⟩
    · have z := List.all_eq_true.mp (by decide +kernel : (PRS.all fun i => (PyData.int i).showable) = true) i hi
      exact z
    · have z := of_decide_eq_true (List.all_eq_true.mp (by decide +kernel : (PRS.all fun i => decide ((PyData.int i).shown.length ≤ 40)) = true) i hi)
      simp only [vD, wB]
      exact z
/-- drawn prices as data -/
def pD (ps : List (Str × V)) : List (Key × PyData) := ps.map fun p => (.inr p.1, vD p.2)
theorem prices_at {K : PySem.W.Frag} {H : Hp} : ∀ {ps : List (Str × V)}, (∀ p ∈ ps, okV p.2) → DctAt K H (ps.map encP) (pD ps)
  | [], _ => .nil
  | p :: r, h => by
    have z := price_fit (h p List.mem_cons_self)
    exact .cons z.2.1 z.2.2 (prices_at fun q hq => h q (List.mem_cons_of_mem _ hq))
theorem prices_told {ps : List (Str × V)} : (∀ p ∈ ps, okV p.2 ∧ p.1 ∈ NM) → PyData.showableKv (itemsD (pD ps)) = true ∧ wBk (itemsD (pD ps)) ≤ 60 * ps.length := by
  induction ps with
  | nil => exact fun _ => ⟨by simp [itemsD, pD, PyData.showableKv], by simp [itemsD, pD, wBk]⟩
  | cons p r ih =>
    intro h
    obtain ⟨h1, h2⟩ := ih fun q hq => h q (List.mem_cons_of_mem _ hq)
    obtain ⟨a, b⟩ := h p List.mem_cons_self
    have z := (price_fit a).1
    have y := name_fit b
    have e : itemsD (pD (p :: r)) = (.str p.1, vD p.2) :: itemsD (pD r) := rfl
    rw [e]
    refine ⟨?_, ?_⟩
    · simp only [PyData.showableKv, z.ok, y.ok, h1, Bool.and_self]
    · have z1 := z.len
      have y1 := y.len
      simp only [wBk, List.length_cons]
      omega
end Cut
set_option Elab.async false
set_option linter.all false
set_option maxRecDepth 100000
set_option maxHeartbeats 4000000
namespace Cut
open PySem PySem.Spec PyProof.Rows L2
theorem prices_deep : ∀ {ps : List (Str × V)}, PyData.depthKv (itemsD (pD ps)) ≤ 1
  | [] => by simp only [itemsD, pD, List.map_nil, PyData.depthKv]; omega
  | p :: r => by
    have h := prices_deep (ps := r)
    have e : itemsD (pD (p :: r)) = (.str p.1, vD p.2) :: itemsD (pD r) := rfl
    have z : (vD p.2).depth = 0 := by
      cases p.2 <;> simp [vD, PyData.depth]
    rw [e]
    simp only [PyData.depthKv, PyData.depth, z]
    omega
theorem prices_depth {ps : List (Str × V)} : PyData.depth (.dict (itemsD (pD ps))) ≤ 5 := by
  have h := prices_deep (ps := ps)
  simp only [PyData.depth]
  omega
/-- the text of [question, prices] -/
theorem qp_told {head : List Str} {ats : List Atm} {ps : List (Str × V)} (g : GoodQ ats) (hh : ∀ x ∈ head, x ∈ NM) (hl : head.length ≤ 8) (hp : ∀ p ∈ ps, okV p.2 ∧ p.1 ∈ NM) (many : ps.length ≤ 6) :
    (PyData.list [qD head ats, .dict (itemsD (pD ps))]).showable = true ∧ (PyData.list [qD head ats, .dict (itemsD (pD ps))]).depth ≤ 60 ∧ (PyData.list [qD head ats, .dict (itemsD (pD ps))]).shown.length ≤ sizeLine := by
  have f := g.fit hh hl
  obtain ⟨s, l⟩ := prices_told hp
  have dd := prices_depth (ps := ps)
  refine ⟨?_, ?_, ?_⟩
  · simp only [PyData.showable, PyData.showableAll, f.ok, s, Bool.and_self]
  · have := f.dep
    simp only [PyData.depth, PyData.depthAll] at dd ⊢
    omega
  · refine Nat.le_trans (shown_le _) ?_
    have := f.len
    simp only [wB, wBs]
    rw [sizeLine_eq]
    have : (2 : Nat) ^ 24 = 16777216 := by decide
    omega
end Cut
set_option Elab.async false
set_option linter.all false
set_option maxRecDepth 100000
set_option maxHeartbeats 4000000
namespace Cut
open PySem PySem.Spec PyProof.Rows L2
/-! ### which tables rule -/
def prV (ps : List (Str × V)) (x : Str) : V := (valV (ps.map encP) (.inr x)).getD .non
def isL (ps : List (Str × V)) (x : Str) : Bool := !decide (prV ps x = .non)
def prI (ps : List (Str × V)) (x : Str) : Int := match prV ps x with | .int i => i | _ => 0
theorem val_cons (kvs : List (Key × V)) (k0 : Key) (v : V) (k : Key) : valV ((k0, v) :: kvs) k = if k0 = k then some v else valV kvs k := by
  unfold valV
  by_cases h : k0 = k
  · rw [if_pos h, List.find?_cons_of_pos (by simp [h])]
    rfl
  · rw [if_neg h, List.find?_cons_of_neg (by simp [h])]
theorem val_price : ∀ {ps : List (Str × V)} {x : Str}, x ∈ ps.map (·.1) → ∃ p ∈ ps, valV (ps.map encP) (.inr x) = some p.2
  | p :: r, x, h => by
    have e : (p :: r).map encP = (Sum.inr p.1, p.2) :: r.map encP := rfl
    rw [e, val_cons]
    by_cases c : p.1 = x
    · rw [if_pos (by rw [c])]
      exact ⟨p, List.mem_cons_self, rfl⟩
    · rw [if_neg (fun z => c (Sum.inr.inj z))]
      rcases List.mem_cons.mp h with h | h
      · exact absurd h.symm c
      · obtain ⟨q, hq, e2⟩ := val_price h
        exact ⟨q, List.mem_cons_of_mem _ hq, e2⟩
theorem price_at {ps : List (Str × V)} {ats : List Atm} (perm : (ps.map (·.1)).Perm (ats.map (·.1))) (ok : ∀ p ∈ ps, okV p.2) {i : Nat} (hi : i < ats.length) :
    valV (ps.map encP) (.inr (tabAt ats i)) = some (prV ps (tabAt ats i)) ∧ (isL ps (tabAt ats i) = true → prV ps (tabAt ats i) = .int (prI ps (tabAt ats i))) ∧ (isL ps (tabAt ats i) = false → prV ps (tabAt ats i) = .non) := by
  have m : tabAt ats i ∈ ps.map (·.1) := perm.mem_iff.mpr (by
    unfold tabAt
    rw [List.getD_eq_getElem?_getD, List.getElem?_eq_getElem hi]
    exact List.mem_map.mpr ⟨ats[i], List.getElem_mem hi, rfl⟩)
  obtain ⟨p, hp, e⟩ := val_price m
  have e2 : prV ps (tabAt ats i) = p.2 := by unfold prV; rw [e]; rfl
  refine ⟨by rw [e, e2], fun h => ?_, fun h => ?_⟩
  · unfold prI
    rw [e2]
    unfold isL at h
    rw [e2] at h
    rcases ok p hp with z | ⟨j, z, _⟩
    · rw [z] at h
      simp at h
    · rw [z]
  · unfold isL at h
    by_cases c : prV ps (tabAt ats i) = .non
    · exact c
    · rw [decide_eq_false c] at h
      cases h
section
variable (ats : List Atm) (ps : List (Str × V))
def looseN : List Nat := (List.range ats.length).filter fun i => isL ps (tabAt ats i)
def pN (i : Nat) : Int := prI ps (tabAt ats i)
def subB (i j : Nat) : Bool := (namesAt ats i).all fun x => decide (x ∈ namesAt ats j)
/-- whether the i-th table rules the j-th, both loose and of a piece -/
def ruB (i j : Nat) : Bool := decide (pN ats ps i ≤ pN ats ps j) && subB ats i j && (!(decide (pN ats ps i = pN ats ps j) && subB ats j i) || decide (i < j))
noncomputable def rulB (i j : Nat) : Bool := cnB ats i j && ruB ats ps i j
noncomputable def rulN (j : Nat) : List Nat := (looseN ats ps).filter fun i => rulB ats ps i j
noncomputable def isR (j : Nat) : Bool := (rulN ats ps j).isEmpty
noncomputable def firstN : List Nat := (looseN ats ps).filter (isR ats ps)
end
theorem subB_iff {ats : List Atm} {i j : Nat} : subB ats i j = true ↔ ∀ x ∈ namesAt ats i, x ∈ namesAt ats j := by
  unfold subB
  rw [List.all_eq_true]
  exact ⟨fun h x hx => of_decide_eq_true (h x hx), fun h x hx => decide_eq_true (h x hx)⟩
theorem ruB_iff {ats : List Atm} {ps : List (Str × V)} {i j : Nat} : ruB ats ps i j = true ↔ pN ats ps i ≤ pN ats ps j ∧ (∀ x ∈ namesAt ats i, x ∈ namesAt ats j) ∧ (pN ats ps i = pN ats ps j → (∀ x ∈ namesAt ats j, x ∈ namesAt ats i) → i < j) := by
  unfold ruB
  rw [Bool.and_eq_true, Bool.and_eq_true, decide_eq_true_iff, subB_iff, Bool.or_eq_true, Bool.not_eq_true', decide_eq_true_iff, Bool.and_eq_false_iff, decide_eq_false_iff_not]
  constructor
  · rintro ⟨⟨h1, h2⟩, h3⟩
    refine ⟨h1, h2, fun e s => ?_⟩
    rcases h3 with (h3 | h3) | h3
    · exact absurd e h3
    · rw [subB_iff.mpr s] at h3
      cases h3
    · exact h3
  · rintro ⟨h1, h2, h3⟩
    refine ⟨⟨h1, h2⟩, ?_⟩
    by_cases e : pN ats ps i = pN ats ps j
    · cases s : subB ats j i with
      | false => exact .inl (.inr rfl)
      | true => exact .inr (h3 e (subB_iff.mp s))
    · exact .inl (.inl e)
theorem ruB_irr {ats : List Atm} {ps : List (Str × V)} {i : Nat} : ruB ats ps i i = false := by
  cases h : ruB ats ps i i with
  | false => rfl
  | true => exact absurd ((ruB_iff.mp h).2.2 rfl fun _ h => h) (Nat.lt_irrefl i)
theorem ruB_trans {ats : List Atm} {ps : List (Str × V)} {i j k : Nat} (a : ruB ats ps i j = true) (b : ruB ats ps j k = true) : ruB ats ps i k = true := by
  rw [ruB_iff] at a b ⊢
  obtain ⟨a1, a2, a3⟩ := a
  obtain ⟨b1, b2, b3⟩ := b
  refine ⟨by omega, fun x hx => b2 x (a2 x hx), fun e s => ?_⟩
  have l1 := a3 (by omega) fun x hx => s x (b2 x hx)
  have l2 := b3 (by omega) fun x hx => a2 x (s x hx)
  omega
theorem rulB_trans {ats : List Atm} {ps : List (Str × V)} {i j k : Nat} (a : rulB ats ps i j = true) (b : rulB ats ps j k = true) : rulB ats ps i k = true := by
  unfold rulB at a b ⊢
  rw [Bool.and_eq_true] at a b ⊢
  exact ⟨cnB_iff.mpr ((cnB_iff.mp a.1).trans (cnB_iff.mp b.1)), ruB_trans a.2 b.2⟩
theorem rulB_irr {ats : List Atm} {ps : List (Str × V)} {i : Nat} : rulB ats ps i i = false := by
  unfold rulB
  rw [ruB_irr, Bool.and_false]
theorem rul_least {ats : List Atm} {ps : List (Str × V)} : ∀ (n j : Nat), (rulN ats ps j).length ≤ n → rulN ats ps j ≠ [] → ∃ i ∈ rulN ats ps j, isR ats ps i = true
  | 0, j, l, ne => absurd (List.eq_nil_of_length_eq_zero (Nat.le_zero.mp l)) ne
  | n + 1, j, l, ne => by
    cases e : rulN ats ps j with
    | nil => exact absurd e ne
    | cons i r =>
      have hi : i ∈ rulN ats ps j := by rw [e]; exact List.mem_cons_self
      rw [← e]
      have hij := (List.mem_filter.mp hi).2
      cases c : isR ats ps i with
      | true => exact ⟨i, hi, c⟩
      | false =>
        have sub : rulN ats ps i = (rulN ats ps j).filter fun k => rulB ats ps k i := by
          unfold rulN
          rw [List.filter_filter]
          refine List.filter_congr fun k _ => ?_
          cases h : rulB ats ps k i with
          | false => rfl
          | true => rw [rulB_trans h hij]; rfl
        have lt : (rulN ats ps i).length < (rulN ats ps j).length := by
          rw [sub]
          exact List.length_filter_lt_length_iff_exists.mpr ⟨i, hi, by rw [rulB_irr]; exact Bool.false_ne_true⟩
        have ne2 : rulN ats ps i ≠ [] := fun z => by
          unfold isR at c
          rw [z] at c
          cases c
        obtain ⟨k, hk, rk⟩ := rul_least n i (by omega) ne2
        obtain ⟨k1, k2⟩ := List.mem_filter.mp hk
        exact ⟨k, List.mem_filter.mpr ⟨k1, rulB_trans k2 hij⟩, rk⟩
/-- the ruling ones that rule j -/
theorem first_rul (ats : List Atm) (ps : List (Str × V)) (j : Nat) : (rulN ats ps j).filter (isR ats ps) = (firstN ats ps).filter fun i => rulB ats ps i j := by
  unfold rulN firstN
  rw [List.filter_filter, List.filter_filter]
  refine List.filter_congr fun k _ => ?_
  rw [Bool.and_comm]
theorem ruled_first (ats : List Atm) (ps : List (Str × V)) (j : Nat) : ((rulN ats ps j).filter (isR ats ps)).isEmpty = isR ats ps j := by
  cases h : isR ats ps j with
  | true =>
    unfold isR at h
    rw [List.isEmpty_iff] at h
    rw [h]
    rfl
  | false =>
    have ne : rulN ats ps j ≠ [] := fun z => by
      unfold isR at h
      rw [z] at h
      cases h
    obtain ⟨i, hi, r⟩ := rul_least _ j (Nat.le_refl _) ne
    cases c : (rulN ats ps j).filter (isR ats ps) with
    | nil =>
      have m : i ∈ (rulN ats ps j).filter (isR ats ps) := List.mem_filter.mpr ⟨hi, r⟩
      rw [c] at m
      exact absurd m (by simp)
    | cons x r => rfl
end Cut
set_option Elab.async false
set_option linter.all false
set_option maxRecDepth 100000
set_option maxHeartbeats 8000000
namespace Cut
open PySem PySem.Spec PyProof.Rows L2
/-! ### the names of each table's atom, in a dict -/
def OwnKv (K : PySem.W.Frag) (H : Hp) (kv : Key × V) (t : Atm) : Prop := kv.1 = .inr t.1 ∧ ∃ l, kv.2 = .ref l ∧ SqL K H l ((ptx t.2).map V.str)
def OwnAt (K : PySem.W.Frag) (H : Hp) (d : Addr) (ats : List Atm) : Prop := ∃ kvs : List (Key × V), H d = some (.dK kvs) ∧ Paired (OwnKv K H) kvs ats
theorem OwnKv.same {K : PySem.W.Frag} {H H' : Hp} {kv : Key × V} {t : Atm} (x : OwnKv K H kv t) (e : Same H H') : OwnKv K H' kv t := let ⟨h1, l, h2, h3⟩ := x; ⟨h1, l, h2, e.seq h3⟩
theorem OwnAt.same {K : PySem.W.Frag} {H H' : Hp} {d : Addr} {ats : List Atm} (x : OwnAt K H d ats) (e : Same H H') : OwnAt K H' d ats := let ⟨kvs, h1, h2⟩ := x; ⟨kvs, e _ _ h1, paired_mono (fun _ _ y => y.same e) h2⟩
theorem seqL_off {K : PySem.W.Frag} {H : Hp} {a d : Addr} {xs : List V} {kvs : List (Key × V)} {u : HO} (h : SqL K H a xs) (hd : H d = some (.dK kvs)) : SqL K (upd H d u) a xs := by
  rcases h with (h | ⟨o, h⟩) | h
  · exact .inl (.inl (by rw [upd_ne (fun z => by rw [z, hd] at h; cases h)]; exact h))
  · exact .inl (.inr ⟨o, by rw [upd_ne (fun z => by rw [z, hd] at h; cases h)]; exact h⟩)
  · exact .inr h
theorem paired_key {G : Key × V → Atm → Prop} : ∀ {kvs : List (Key × V)} {ats : List Atm}, Paired (fun kv t => kv.1 = Sum.inr t.1 ∧ G kv t) kvs ats → (ats.map (·.1)).Nodup → ∀ {i : Nat} {t : Atm}, ats[i]? = some t → ∃ kv, kvs[i]? = some kv ∧ kv.1 = Sum.inr t.1 ∧ valV kvs (.inr t.1) = some kv.2 ∧ G kv t
  | _, _, .nil, _, i, t, h => by simp at h
  | kv :: kvs, t0 :: ats, .cons ⟨e, g⟩ r, nd, 0, t, h => by
    cases h
    obtain ⟨k, v⟩ := kv
    have e : k = Sum.inr t0.1 := e
    refine ⟨(k, v), rfl, e, ?_, g⟩
    rw [val_cons, if_pos e]
  | kv :: kvs, t0 :: ats, .cons ⟨e, g⟩ r, nd, i + 1, t, h => by
    have h : ats[i]? = some t := h
    obtain ⟨n1, n2⟩ := List.nodup_cons.mp nd
    obtain ⟨kv', h1, h2, h3, h4⟩ := paired_key r n2 h
    obtain ⟨k, v⟩ := kv
    have e : k = Sum.inr t0.1 := e
    refine ⟨kv', h1, h2, ?_, h4⟩
    rw [val_cons, if_neg (fun z => ?_)]
    · exact h3
    · rw [e] at z
      have z : t0.1 = t.1 := Sum.inr.inj z
      exact n1 (List.mem_map.mpr ⟨t, List.mem_of_getElem? h, z.symm⟩)
theorem own_get {K : PySem.W.Frag} {H : Hp} {d : Addr} {ats : List Atm} (x : OwnAt K H d ats) (nd : (ats.map (·.1)).Nodup) {i : Nat} (hi : i < ats.length) :
    ∃ kvs l, H d = some (.dK kvs) ∧ valV kvs (.inr (tabAt ats i)) = some (.ref l) ∧ SqL K H l ((namesAt ats i).map V.str) := by
  obtain ⟨kvs, h1, h2⟩ := x
  have e := List.getElem?_eq_getElem hi
  obtain ⟨⟨k, v⟩, g1, g2, g3, l, g4, g5⟩ := paired_key h2 nd e
  have t : ats.getD i ("", []) = ats[i] := by rw [List.getD_eq_getElem?_getD, e]; rfl
  have g4 : v = .ref l := g4
  refine ⟨kvs, l, h1, ?_, ?_⟩
  · unfold tabAt
    rw [t, g3, g4]
  · unfold namesAt
    rw [t]
    exact g5
theorem keys_new {G : Key × V → Atm → Prop} : ∀ {kvs : List (Key × V)} {as : List Atm} {x : Str}, Paired (fun kv t => kv.1 = Sum.inr t.1 ∧ G kv t) kvs as → x ∉ as.map (·.1) → valV kvs (.inr x) = none
  | _, _, x, .nil, _ => rfl
  | (k, v) :: kvs, t :: as, x, .cons ⟨e, _⟩ r, n => by
    have e : k = Sum.inr t.1 := e
    rw [List.map_cons, List.mem_cons, not_or] at n
    rw [val_cons, if_neg (fun z => n.1 (by rw [e] at z; exact (Sum.inr.inj z).symm))]
    exact keys_new r n.2
theorem nodup_inj {α : Type} {l : List α} (nd : l.Nodup) {i j : Nat} (hi : i < l.length) (hj : j < l.length) (e : l[i] = l[j]) : i = j := by
  have p := List.pairwise_iff_getElem.mp nd
  rcases Nat.lt_trichotomy i j with h | h | h
  · exact absurd e (p i j hi hj h)
  · exact h
  · exact absurd e.symm (p j i hj hi h)
theorem new_at {ats : List Atm} (nd : (ats.map (·.1)).Nodup) {i : Nat} {t : Atm} (h : ats[i]? = some t) : t.1 ∉ (ats.take i).map (·.1) := fun m => by
  have hi := (List.getElem?_eq_some_iff.mp h).1
  obtain ⟨u, hu, e⟩ := List.mem_map.mp m
  obtain ⟨j, hj, ej⟩ := List.getElem_of_mem hu
  rw [List.length_take] at hj
  rw [List.getElem_take] at ej
  have e2 : (ats.map (·.1))[j]'(by rw [List.length_map]; omega) = (ats.map (·.1))[i]'(by rw [List.length_map]; omega) := by
    rw [List.getElem_map, List.getElem_map, ej, e]
    have := (List.getElem?_eq_some_iff.mp h).2
    rw [this]
  have := nodup_inj nd _ _ e2
  omega
abbrev NBy : List Str := ["question", "table", "parts"]
theorem scNamesBy : FnScope NBy ["question"] (defScope sNamesBy) := ⟨rfl, rfl, rfl, by decide +kernel, rfl, by decide +kernel, by decide +kernel⟩
abbrev NOw : List Str := ["question", "found", "table", "parts", "part"]
theorem scOwn : FnScope NOw ["question"] (defScope sOwn) := ⟨rfl, rfl, rfl, by decide +kernel, rfl, by decide +kernel, by decide +kernel⟩
section
variable {P : Program} {w : World} {K : PySem.W.Frag} {mg : Str → Option Value} {base : Heap}
def spOwn (K : PySem.W.Frag) : Sp := fun vs H Q _ => ∃ (q : Addr) (head : List Str) (ats : List Atm), vs = [.ref q] ∧ QAt K H q head ats ∧ Few ats ∧ (ats.map (·.1)).Nodup ∧ ∀ (H' : Hp) (d : Addr), Same H H' → H d = none → OwnAt K H' d ats → Q (.ref d) H'
theorem ok_namesBy {f fP : Addr} {fd fdP : FuncData} (F : Fun K "names_by_table" "names_by_table" sNamesBy f fd) (B : Blt mg) (FP : Fun K "part_names" "part_names" sPartNames fP fdP) (bP : Binds K fdP ["parts"] []) (gP : mg "part_names" = some (.ref fP)) : FnOk P w K mg base CX0 2 f fd ["question"] (spOwn K) := by
  have GP : FnOk P w K mg base CX0 1 fP fdP ["parts"] (spPartNames K) := ok_partNames FP B
  refine F.ok scNamesBy (fun vs H Q E h => ?_) (fun cdv A outer s H vs Q E hr h => ?_)
  · obtain ⟨q, head, ats, rfl, _⟩ := h
    rfl
  · obtain ⟨q, head, ats, rfl, hq, few, dist, fin⟩ := h
    obtain ⟨hd, sa, us, hq1, hq2, hq3, hq4⟩ := hq
    have len4 := paired_len hq4
    have nd := scNamesBy.nd
    refine ⟨_, pss_one (ps_ret (pe_dc (own := [("table", 1), ("parts", 2)]) (g := gTup K 2 (gCons (gName 1) (gCons (gName 2) gNil))) (tt := tYes) (tk := tVar 1) (tv := tCall (spPartNames K) [] E0 (tCons (tVar 2) tNil)) (by rfl) nd
      (pi_tup (pe_ix ix_tup (pv 0) pe_int (fun _ _ => rfl))) (blkOk_by (own := [("table", 1), ("parts", 2)]) (N := NBy) (sc := defScope sNamesBy) (by decide +kernel))
      (fun _ _ _ _ _ => pg_tup (by rfl) (pgs_cons (pg_name (i := 1) nd rfl (.inl rfl)) (pgs_cons (pg_name (i := 2) nd rfl (.inl rfl)) pgs_nil))) (fun _ _ _ _ _ => pts_nil) (fun _ _ _ _ _ => pv 1)
      (fun _ _ _ _ _ => pe_call GP hr (by rfl) gP FP.kp bP .nil pass0 (pa_cons (pv 2) pa_nil)))), ?_⟩
    refine ⟨_, rfl, q, _, 1, .ref sa, rfl, rfl, hq1, rfl, sa, rfl, ⟨_, hq3⟩, fun D nD => ?_⟩
    refine walk_tup (xs := us) (fun i H7 => Same H H7 ∧ ∃ kvs, H7 D = some (.dK kvs) ∧ Paired (OwnKv K H7) kvs (ats.take i)) ⟨same_new nD, [], upd_same, .nil⟩ (fun i H7 _ h => seqT h.1 hq3) ?_ ?_
    · rintro i x H7 hx ⟨sm, kvs, hD, hkv⟩
      obtain ⟨t, ht, c, p, rfl, h1, h2⟩ := paired_get hq4 hx
      have fp := few.parts t (List.mem_of_getElem? ht)
      have lk := paired_len hkv
      have fm := few.many
      refine ⟨c, [.str t.1, .ref p], rfl, seqT sm h1, rfl, .str t.1, [.ref p], rfl, .ref p, [], rfl, rfl, rfl, ?_⟩
      refine tyes ?_
      refine ⟨_, rfl, _, rfl, p, t.2, rfl, seqT sm h2, by omega, fun H8 l s8 n8 hl => ⟨kvs, .inr t.1, rfl, s8 _ _ hD, ?_, ?_⟩⟩
      · rw [lk, List.length_take]
        exact small1000 (by omega)
      · have nl : l ≠ D := (ne_of_none hD n8).symm
        have hv := keys_new hkv (new_at dist ht)
        rw [putK_new _ hv]
        have keep : ∀ b o, H8 b = some o → b ≠ D → upd H8 D (.dK (kvs ++ [(Sum.inr t.1, V.ref l)])) b = some o := fun b o e ne => by rw [upd_ne ne]; exact e
        refine ⟨fun b o e => ?_, _, upd_same, ?_⟩
        · rw [upd_ne (ne_of_none e nD)]
          exact s8 _ _ (sm _ _ e)
        · rw [List.take_add_one, ht]
          refine Paired.snoc (paired_mono (fun kv u y => ?_) hkv) ⟨rfl, l, rfl, SqL.of (keep _ _ hl nl)⟩
          obtain ⟨y1, m, y2, y3⟩ := y
          refine ⟨y1, m, y2, ?_⟩
          exact seqL_off (s8.seq y3) (s8 _ _ hD)
    · rintro H7 ⟨sm, kvs, hD, hkv⟩
      rw [len4, List.take_length] at hkv
      exact fin H7 D sm nD ⟨kvs, hD, hkv⟩
end
end Cut
set_option Elab.async false
set_option linter.all false
set_option maxRecDepth 100000
set_option maxHeartbeats 8000000
namespace Cut
open PySem PySem.Spec PyProof.Rows L2
/-! ### the loose tables -/
def tabsV (ats : List Atm) (js : List Nat) : List V := js.map fun j => V.str (tabAt ats j)
theorem tab_get {ats : List Atm} {i : Nat} {t : Atm} (h : ats[i]? = some t) : tabAt ats i = t.1 := by
  unfold tabAt
  rw [List.getD_eq_getElem?_getD, h]
  rfl
theorem range_take_filter (n i : Nat) (p : Nat → Bool) (hi : i < n) : ((List.range n).take (i + 1)).filter p = ((List.range n).take i).filter p ++ (if p i = true then [i] else []) := by
  rw [List.take_add_one, List.filter_append, List.getElem?_range hi]
  cases h : p i with
  | true => simp [h]
  | false => simp [h]
/-- prices in memory -/
structure PricesAt (H : Hp) (d : Addr) (ats : List Atm) (ps : List (Str × V)) : Prop where
  at_ : H d = some (.dK (ps.map encP))
  perm : (ps.map (·.1)).Perm (ats.map (·.1))
  ok : ∀ p ∈ ps, okV p.2
theorem PricesAt.same {H H' : Hp} {d : Addr} {ats : List Atm} {ps : List (Str × V)} (x : PricesAt H d ats ps) (e : Same H H') : PricesAt H' d ats ps := ⟨e _ _ x.at_, x.perm, x.ok⟩
theorem PricesAt.get {H : Hp} {d : Addr} {ats : List Atm} {ps : List (Str × V)} (x : PricesAt H d ats ps) {i : Nat} (hi : i < ats.length) : DGet H d (.str (tabAt ats i)) (some (prV ps (tabAt ats i))) := by
  have g := DGet.k (k := .inr (tabAt ats i)) x.at_
  rw [(price_at x.perm x.ok hi).1] at g
  exact g
theorem mem_loose {ats : List Atm} {ps : List (Str × V)} {i : Nat} (h : i ∈ looseN ats ps) : i < ats.length ∧ isL ps (tabAt ats i) = true := ⟨List.mem_range.mp (List.mem_filter.mp h).1, (List.mem_filter.mp h).2⟩
theorem loose_len (ats : List Atm) (ps : List (Str × V)) : (looseN ats ps).length ≤ ats.length := by
  have := List.length_filter_le (fun i => isL ps (tabAt ats i)) (List.range ats.length)
  rw [List.length_range] at this
  exact this
/-- a dict that tells which tables are loose: of prices, or of tuples in their place -/
def LsAt (H : Hp) (d : Addr) (ats : List Atm) (ps : List (Str × V)) : Prop := ∀ i, i < ats.length → ∃ v, (∀ H', Same H H' → DGet H' d (.str (tabAt ats i)) (some v)) ∧ (!decide (v = .non)) = isL ps (tabAt ats i)
theorem LsAt.same {H H' : Hp} {d : Addr} {ats : List Atm} {ps : List (Str × V)} (x : LsAt H d ats ps) (e : Same H H') : LsAt H' d ats ps := fun i hi => let ⟨v, g, z⟩ := x i hi; ⟨v, fun _ s => g _ (e.trans s), z⟩
theorem PricesAt.ls {H : Hp} {d : Addr} {ats : List Atm} {ps : List (Str × V)} (x : PricesAt H d ats ps) : LsAt H d ats ps := fun i hi => ⟨_, fun _ s => (x.same s).get hi, rfl⟩
/-- tuples of prices in memory -/
def WorKv (H : Hp) (kv : Key × V) (p : Str × V) : Prop := kv.1 = Sum.inr p.1 ∧ ((p.2 = .non ∧ kv.2 = .non) ∨ ∃ (i : Int) (a : Addr), p.2 = .int i ∧ kv.2 = .ref a ∧ H a = some (.tup [.int i]))
structure WorAt (H : Hp) (d : Addr) (ats : List Atm) (ps : List (Str × V)) : Prop where
  at_ : ∃ kvs, H d = some (.dK kvs) ∧ Paired (WorKv H) kvs ps
  perm : (ps.map (·.1)).Perm (ats.map (·.1))
  ok : ∀ p ∈ ps, okV p.2
theorem WorKv.same {H H' : Hp} {kv : Key × V} {p : Str × V} (x : WorKv H kv p) (e : Same H H') : WorKv H' kv p := by
  obtain ⟨h1, h2 | ⟨i, a, h2, h3, h4⟩⟩ := x
  · exact ⟨h1, .inl h2⟩
  · exact ⟨h1, .inr ⟨i, a, h2, h3, e _ _ h4⟩⟩
theorem WorAt.same {H H' : Hp} {d : Addr} {ats : List Atm} {ps : List (Str × V)} (x : WorAt H d ats ps) (e : Same H H') : WorAt H' d ats ps := by
  obtain ⟨⟨kvs, h1, h2⟩, h3, h4⟩ := x
  exact ⟨⟨kvs, e _ _ h1, paired_mono (fun _ _ y => y.same e) h2⟩, h3, h4⟩
theorem wor_val {H : Hp} {kvs : List (Key × V)} {ps : List (Str × V)} (p : Paired (WorKv H) kvs ps) (x : Str) : ∀ v, valV (ps.map encP) (.inr x) = some v → ∃ u, valV kvs (.inr x) = some u ∧ ((v = .non ∧ u = .non) ∨ ∃ (i : Int) (a : Addr), v = .int i ∧ u = .ref a ∧ H a = some (.tup [.int i])) := by
  induction p with
  | nil => intro v h; cases h
  | @cons kv q kvs ps f r ih =>
    intro v h
    obtain ⟨k0, v0⟩ := kv
    obtain ⟨f1, f2⟩ := f
    have f1 : k0 = Sum.inr q.1 := f1
    have e : (q :: ps).map encP = (Sum.inr q.1, q.2) :: ps.map encP := rfl
    rw [e, val_cons] at h
    rw [val_cons, f1]
    by_cases c : (Sum.inr q.1 : Key) = Sum.inr x
    · rw [if_pos c] at h ⊢
      have := Option.some.inj h
      subst this
      exact ⟨v0, rfl, f2⟩
    · rw [if_neg c] at h ⊢
      exact ih v h
theorem WorAt.get {H : Hp} {d : Addr} {ats : List Atm} {ps : List (Str × V)} (x : WorAt H d ats ps) {i : Nat} (hi : i < ats.length) (l : isL ps (tabAt ats i) = true) : ∃ a, DGet H d (.str (tabAt ats i)) (some (.ref a)) ∧ H a = some (.tup [.int (pN ats ps i)]) := by
  obtain ⟨kvs, h1, h2⟩ := x.at_
  obtain ⟨e1, e2, _⟩ := price_at x.perm x.ok hi
  obtain ⟨u, hu, z⟩ := wor_val h2 _ _ e1
  rw [e2 l] at z
  rcases z with ⟨z, _⟩ | ⟨j, a, z1, z2, z3⟩
  · cases z
  · have g := DGet.k (k := .inr (tabAt ats i)) h1
    rw [hu, z2] at g
    have ej : j = prI ps (tabAt ats i) := (V.int.inj z1).symm
    rw [ej] at z3
    exact ⟨a, g, z3⟩
theorem WorAt.ls {H : Hp} {d : Addr} {ats : List Atm} {ps : List (Str × V)} (x : WorAt H d ats ps) : LsAt H d ats ps := fun i hi => by
  obtain ⟨kvs, h1, h2⟩ := x.at_
  obtain ⟨e1, e2, e3⟩ := price_at x.perm x.ok hi
  obtain ⟨u, hu, z⟩ := wor_val h2 _ _ e1
  refine ⟨u, fun H' s => ?_, ?_⟩
  · have g := DGet.k (k := .inr (tabAt ats i)) (s _ _ h1)
    rw [hu] at g
    exact g
  · cases l : isL ps (tabAt ats i) with
    | true =>
      rw [e2 l] at z
      rcases z with ⟨z, _⟩ | ⟨j, a, z1, z2, z3⟩
      · cases z
      · rw [z2]
        rfl
    | false =>
      rw [e3 l] at z
      rcases z with ⟨_, z⟩ | ⟨j, a, z1, z2, z3⟩
      · rw [z]
        rfl
      · cases z1
abbrev NLt : List Str := ["question", "prices", "table", "_"]
theorem scLooseT : FnScope NLt ["question", "prices"] (defScope sLooseT) := ⟨rfl, rfl, rfl, by decide +kernel, rfl, by decide +kernel, by decide +kernel⟩
abbrev NLl : List Str := ["question", "prices", "table", "parts"]
theorem scLooseL : FnScope NLl ["question", "prices"] (defScope sLooseL) := ⟨rfl, rfl, rfl, by decide +kernel, rfl, by decide +kernel, by decide +kernel⟩
section
variable {P : Program} {w : World} {K : PySem.W.Frag} {mg : Str → Option Value} {base : Heap}
/-- the comprehension of both -/
theorem loose_walk {H J : Hp} {D sa pr : Addr} {us : List V} {ats : List Atm} {ps : List (Str × V)} {Q : Hp → Prop} {Body : Nat → V → Hp → (Hp → Prop) → Prop} (hq3 : SqT K H sa us) (hq4 : AtsAt K H us ats) (few : Few ats) (hp : LsAt H pr ats ps) (s0 : Same H J) (nD : J D = none)
    (turn : ∀ (i : Nat) (c p : Addr) (H7 : Hp) (Nx : Hp → Prop) (xs : List V) (v : V), i < ats.length → SqT K H7 c [.str (tabAt ats i), .ref p] → DGet H7 pr (.str (tabAt ats i)) (some v) → (!decide (v = .non)) = isL ps (tabAt ats i) → H7 D = some (.lst xs) → xs.length < sizeLine →
      (isL ps (tabAt ats i) = true → Nx (upd H7 D (.lst (xs ++ [.str (tabAt ats i)])))) → (isL ps (tabAt ats i) = false → Nx H7) → Body i (.ref c) H7 Nx)
    (fin : ∀ H7, Same J H7 → H7 D = some (.lst (tabsV ats (looseN ats ps))) → Q H7) :
    ∃ W : Nat → Nat → Hp → Prop, (∃ m, W 0 m (upd J D (.lst []))) ∧ ∀ i m H, W i m H →
      ((Itt K sa).stop i H ∧ Q H) ∨ ((Itt K sa).go i H ∧ ∃ Nx : Hp → Prop, (∀ H', Nx H' → ∃ m', m' < m ∧ W (i + 1) m' H') ∧ ∀ x H', (Itt K sa).yld i H x H' → Body i x H' Nx) := by
  have len4 := paired_len hq4
  refine walk_tup (xs := us) (fun i H7 => Same J H7 ∧ H7 D = some (.lst (tabsV ats (((List.range ats.length).take i).filter fun i => isL ps (tabAt ats i))))) ⟨same_new nD, upd_same⟩ (fun i H7 _ h => seqT (s0.trans h.1) hq3) ?_ ?_
  · rintro i x H7 hx ⟨sm, hD⟩
    obtain ⟨t, ht, c, p, rfl, h1, h2⟩ := paired_get hq4 hx
    have hi := (List.getElem?_eq_some_iff.mp ht).1
    have et := tab_get ht
    have sH := s0.trans sm
    have fm := few.many
    have rt := range_take_filter ats.length i (fun i => isL ps (tabAt ats i)) hi
    obtain ⟨v, gv, ev⟩ := hp i hi
    refine turn i c p H7 _ _ v hi (by rw [et]; exact seqT sH h1) (gv _ sH) ev hD ?_ (fun hl => ?_) (fun hl => ?_)
    · unfold tabsV
      rw [List.length_map]
      have := List.length_filter_le (fun i => isL ps (tabAt ats i)) ((List.range ats.length).take i)
      rw [List.length_take, List.length_range] at this
      exact small1000 (by omega)
    · refine ⟨fun b o e => ?_, ?_⟩
      · rw [upd_ne (ne_of_none e nD)]
        exact sm _ _ e
      · rw [upd_same, rt, if_pos hl]
        unfold tabsV
        rw [List.map_append]
        rfl
    · refine ⟨sm, ?_⟩
      rw [rt, if_neg (by rw [hl]; exact Bool.false_ne_true), List.append_nil]
      exact hD
  · rintro H7 ⟨sm, hD⟩
    rw [len4, List.take_of_length_le (by rw [List.length_range]; exact Nat.le_refl _)] at hD
    exact fin H7 sm hD
def spLooseW (K : PySem.W.Frag) : Sp := fun vs H Q _ => ∃ (q pr : Addr) (head : List Str) (ats : List Atm) (ps : List (Str × V)), vs = [.ref q, .ref pr] ∧ QAt K H q head ats ∧ Few ats ∧ LsAt H pr ats ps ∧
  ∀ (H' : Hp) (r : Addr), Same H H' → H r = none → H' r = some (.tup (tabsV ats (looseN ats ps))) → Q (.ref r) H'
def spLooseT (K : PySem.W.Frag) : Sp := fun vs H Q _ => ∃ (q pr : Addr) (head : List Str) (ats : List Atm) (ps : List (Str × V)), vs = [.ref q, .ref pr] ∧ QAt K H q head ats ∧ Few ats ∧ PricesAt H pr ats ps ∧
  ∀ (H' : Hp) (r : Addr), Same H H' → H r = none → H' r = some (.tup (tabsV ats (looseN ats ps))) → Q (.ref r) H'
def spLooseL (K : PySem.W.Frag) : Sp := fun vs H Q _ => ∃ (q pr : Addr) (head : List Str) (ats : List Atm) (ps : List (Str × V)), vs = [.ref q, .ref pr] ∧ QAt K H q head ats ∧ Few ats ∧ PricesAt H pr ats ps ∧
  ∀ (H' : Hp) (r : Addr), Same H H' → H r = none → H' r = some (.lst (tabsV ats (looseN ats ps))) → Q (.ref r) H'
theorem ok_looseW {f : Addr} {fd : FuncData} (F : Fun K "loose_tables" "loose_tables" sLooseT f fd) (B : Blt mg) : FnOk P w K mg base CX0 1 f fd ["question", "prices"] (spLooseW K) := by
  refine F.ok scLooseT (fun vs H Q E h => ?_) (fun cdv A outer s H vs Q E hr h => ?_)
  · obtain ⟨q, pr, head, ats, ps, rfl, _⟩ := h
    rfl
  · obtain ⟨q, pr, head, ats, ps, rfl, hq, few, hpl, fin⟩ := h
    obtain ⟨hd, sa, us, hq1, hq2, hq3, hq4⟩ := hq
    have nd := scLooseT.nd
    refine ⟨_, pss_one (ps_ret (pe_tupleOf (by rfl) B.tuple (pe_lc (own := [("table", 2), ("_", 3)]) (g := gTup K 2 (gCons (gName 2) (gCons (gName 3) gNil))) (tt := tB (tNotN (tDGet (tVar 1) (tVar 2)))) (te := tVar 2) (by rfl) nd
      (pi_tup (pe_ix ix_tup (pv 0) pe_int (fun _ _ => rfl))) (blkOk_by (own := [("table", 2), ("_", 3)]) (N := NLt) (sc := defScope sLooseT) (by decide +kernel))
      (fun _ _ _ _ _ => pg_tup (by rfl) (pgs_cons (pg_name (i := 2) nd rfl (.inl rfl)) (pgs_cons (pg_name (i := 3) nd rfl (.inl rfl)) pgs_nil))) (fun _ _ _ _ _ => pts_one (pt_cmp (pc_notN (pe_dget (hu_of hr) (pv 1) (pv 2) (fun _ _ => rfl))))) (fun _ _ _ _ _ => pv 2)))), ?_⟩
    refine ⟨_, rfl, q, _, 1, .ref sa, rfl, rfl, hq1, rfl, sa, rfl, ⟨_, hq3⟩, fun D nD => ?_⟩
    refine loose_walk hq3 hq4 few hpl (Same.refl H) nD (fun i c p H7 Nx xs v hi h1 g ev hD sz yes no => ?_) (fun H7 sm hD => ?_)
    · refine ⟨c, [.str (tabAt ats i), .ref p], rfl, h1, rfl, .str (tabAt ats i), [.ref p], rfl, .ref p, [], rfl, rfl, rfl, ?_⟩
      refine ⟨_, rfl, _, rfl, pr, _, rfl, g, _, rfl, ?_⟩
      cases hl : isL ps (tabAt ats i) with
      | true =>
        have e : (!decide (v = .non)) = true := ev.trans hl
        rw [e]
        exact iteT ⟨_, rfl, xs, hD, sz, yes hl⟩
      | false =>
        have e : (!decide (v = .non)) = false := ev.trans hl
        rw [e]
        exact iteF (no hl)
    · exact .inl ⟨D, _, rfl, SqL.of hD, fun r nr => fin _ r (sm.trans (same_new nr)) (sm.free nr) upd_same⟩
theorem ok_looseT {f : Addr} {fd : FuncData} (F : Fun K "loose_tables" "loose_tables" sLooseT f fd) (B : Blt mg) : FnOk P w K mg base CX0 1 f fd ["question", "prices"] (spLooseT K) :=
  (ok_looseW F B).imp fun _ _ _ _ ⟨q, pr, head, ats, ps, e, hq, few, hp, fin⟩ => ⟨q, pr, head, ats, ps, e, hq, few, hp.ls, fin⟩
theorem ok_looseL {f : Addr} {fd : FuncData} (F : Fun K "_law_loose" "_law_loose" sLooseL f fd) (B : Blt mg) : FnOk P w K mg base CX0 1 f fd ["question", "prices"] (spLooseL K) := by
  refine F.ok scLooseL (fun vs H Q E h => ?_) (fun cdv A outer s H vs Q E hr h => ?_)
  · obtain ⟨q, pr, head, ats, ps, rfl, _⟩ := h
    rfl
  · obtain ⟨q, pr, head, ats, ps, rfl, hq, few, hp, fin⟩ := h
    obtain ⟨hd, sa, us, hq1, hq2, hq3, hq4⟩ := hq
    have hpl := hp.ls
    have nd := scLooseL.nd
    refine ⟨_, pss_one (ps_ret (pe_lc (own := [("table", 2), ("parts", 3)]) (g := gTup K 2 (gCons (gName 2) (gCons (gName 3) gNil))) (tt := tB (tNotN (tDGet (tVar 1) (tVar 2)))) (te := tVar 2) (by rfl) nd
      (pi_tup (pe_ix ix_tup (pv 0) pe_int (fun _ _ => rfl))) (blkOk_by (own := [("table", 2), ("parts", 3)]) (N := NLl) (sc := defScope sLooseL) (by decide +kernel))
      (fun _ _ _ _ _ => pg_tup (by rfl) (pgs_cons (pg_name (i := 2) nd rfl (.inl rfl)) (pgs_cons (pg_name (i := 3) nd rfl (.inl rfl)) pgs_nil))) (fun _ _ _ _ _ => pts_one (pt_cmp (pc_notN (pe_dget (hu_of hr) (pv 1) (pv 2) (fun _ _ => rfl))))) (fun _ _ _ _ _ => pv 2))), ?_⟩
    refine ⟨_, rfl, q, _, 1, .ref sa, rfl, rfl, hq1, rfl, sa, rfl, ⟨_, hq3⟩, fun D nD => ?_⟩
    refine loose_walk hq3 hq4 few hpl (Same.refl H) nD (fun i c p H7 Nx xs v hi h1 g ev hD sz yes no => ?_) (fun H7 sm hD => ?_)
    · refine ⟨c, [.str (tabAt ats i), .ref p], rfl, h1, rfl, .str (tabAt ats i), [.ref p], rfl, .ref p, [], rfl, rfl, rfl, ?_⟩
      refine ⟨_, rfl, _, rfl, pr, _, rfl, g, _, rfl, ?_⟩
      cases hl : isL ps (tabAt ats i) with
      | true =>
        have e : (!decide (v = .non)) = true := ev.trans hl
        rw [e]
        exact iteT ⟨_, rfl, xs, hD, sz, yes hl⟩
      | false =>
        have e : (!decide (v = .non)) = false := ev.trans hl
        rw [e]
        exact iteF (no hl)
    · exact fin _ D sm nD hD
end
end Cut
set_option Elab.async false
set_option linter.all false
set_option maxRecDepth 100000
set_option maxHeartbeats 8000000
namespace Cut
open PySem PySem.Spec PyProof.Rows L2
/-! ### what chains lead to, found as the law finds it -/
/-- for k in d: .., d a locked dict -/
theorem for_keys {d : Addr} {o : Obj} {kvs : List (Key × V)} {σ0 : L2.St} {H0 : Hp} {Done : L2.St → Hp → Prop} {Body : Nat → V → L2.St → Hp → (L2.St → Hp → Prop) → Prop} (Pv : Nat → L2.St → Hp → Prop) (h0 : Pv 0 σ0 H0) (hl : ∀ i σ H, i ≤ kvs.length → Pv i σ H → H d = some (.frz o (.dK kvs)))
    (turn : ∀ i k v σ H, kvs[i]? = some (k, v) → Pv i σ H → Body i (kV k) σ H (Pv (i + 1))) (fin : ∀ σ H, Pv kvs.length σ H → Done σ H) :
    ∃ W : Nat → Nat → L2.St → Hp → Prop, (∃ m, W 0 m σ0 H0) ∧ ∀ i m σ H, W i m σ H →
      ((Itk d o kvs).stop i H ∧ Done σ H) ∨ ((Itk d o kvs).go i H ∧ ∃ Nx : L2.St → Hp → Prop, (∀ σ' H', Nx σ' H' → ∃ m', m' < m ∧ W (i + 1) m' σ' H') ∧ ∀ x H', (Itk d o kvs).yld i H x H' → Body i x σ H' Nx) := by
  refine ⟨fun i m σ H => m + i = kvs.length ∧ Pv i σ H, ⟨kvs.length, rfl, h0⟩, fun i m σ H h => ?_⟩
  obtain ⟨em, p⟩ := h
  have at_ := hl i σ H (by omega) p
  by_cases lt : i < kvs.length
  · refine .inr ⟨⟨at_, lt⟩, Pv (i + 1), fun σ' H' p' => ⟨m - 1, by omega, by omega, p'⟩, fun x H' y => ?_⟩
    obtain ⟨rfl, k, v, hk, rfl⟩ := y
    exact turn i k v σ _ hk p
  · have e : i = kvs.length := by omega
    subst e
    exact .inl ⟨⟨at_, Nat.le_refl _⟩, fin σ H p⟩
/-- .. in a comprehension -/
theorem walk_keysC {d : Addr} {o : Obj} {kvs : List (Key × V)} {H0 : Hp} {Done : Hp → Prop} {Body : Nat → V → Hp → (Hp → Prop) → Prop} (Pv : Nat → Hp → Prop) (h0 : Pv 0 H0) (hl : ∀ i H, i ≤ kvs.length → Pv i H → H d = some (.frz o (.dK kvs)))
    (turn : ∀ i k v H, kvs[i]? = some (k, v) → Pv i H → Body i (kV k) H (Pv (i + 1))) (fin : ∀ H, Pv kvs.length H → Done H) :
    ∃ W : Nat → Nat → Hp → Prop, (∃ m, W 0 m H0) ∧ ∀ i m H, W i m H →
      ((Itk d o kvs).stop i H ∧ Done H) ∨ ((Itk d o kvs).go i H ∧ ∃ Nx : Hp → Prop, (∀ H', Nx H' → ∃ m', m' < m ∧ W (i + 1) m' H') ∧ ∀ x H', (Itk d o kvs).yld i H x H' → Body i x H' Nx) := by
  refine ⟨fun i m H => m + i = kvs.length ∧ Pv i H, ⟨kvs.length, rfl, h0⟩, fun i m H h => ?_⟩
  obtain ⟨em, p⟩ := h
  have at_ := hl i H (by omega) p
  by_cases lt : i < kvs.length
  · refine .inr ⟨⟨at_, lt⟩, Pv (i + 1), fun H' p' => ⟨m - 1, by omega, by omega, p'⟩, fun x H' y => ?_⟩
    obtain ⟨rfl, k, v, hk, rfl⟩ := y
    exact turn i k v _ hk p
  · have e : i = kvs.length := by omega
    subst e
    exact .inl ⟨⟨at_, Nat.le_refl _⟩, fin H p⟩
/-- the own names, locked -/
structure OwnF (K : PySem.W.Frag) (H : Hp) (d : Addr) (o : Obj) (kvs : List (Key × V)) (ats : List Atm) : Prop where
  at_ : H d = some (.frz o (.dK kvs))
  own : Paired (OwnKv K H) kvs ats
theorem OwnF.same {K : PySem.W.Frag} {H H' : Hp} {d : Addr} {o : Obj} {kvs : List (Key × V)} {ats : List Atm} (x : OwnF K H d o kvs ats) (e : Same H H') : OwnF K H' d o kvs ats := ⟨e _ _ x.at_, paired_mono (fun _ _ y => y.same e) x.own⟩
theorem OwnF.key {K : PySem.W.Frag} {H : Hp} {d : Addr} {o : Obj} {kvs : List (Key × V)} {ats : List Atm} (x : OwnF K H d o kvs ats) {i : Nat} {k : Key} {v : V} (h : kvs[i]? = some (k, v)) : i < ats.length ∧ kV k = .str (tabAt ats i) := by
  obtain ⟨t, ht, e, _⟩ := paired_get x.own h
  refine ⟨(List.getElem?_eq_some_iff.mp ht).1, ?_⟩
  rw [tab_get ht, show k = Sum.inr t.1 from e]
  rfl
theorem OwnF.get {K : PySem.W.Frag} {H : Hp} {d : Addr} {o : Obj} {kvs : List (Key × V)} {ats : List Atm} (x : OwnF K H d o kvs ats) (nd : (ats.map (·.1)).Nodup) {i : Nat} (hi : i < ats.length) :
    ∃ l, DGet H d (.str (tabAt ats i)) (some (.ref l)) ∧ SqL K H l ((namesAt ats i).map V.str) := by
  have e := List.getElem?_eq_getElem hi
  obtain ⟨⟨k, v⟩, g1, g2, g3, l, g4, g5⟩ := paired_key x.own nd e
  have t : ats.getD i ("", []) = ats[i] := by rw [List.getD_eq_getElem?_getD, e]; rfl
  have g4 : v = .ref l := g4
  refine ⟨l, .inl ⟨kvs, .inr (tabAt ats i), .inr ⟨o, x.at_⟩, rfl, ?_⟩, ?_⟩
  · unfold tabAt
    rw [t, g3, g4]
  · unfold namesAt
    rw [t]
    exact g5
/-- the texts of the names can be compared -/
def TxOk (ats : List Atm) : Prop := ∀ t ∈ ats, ∀ x ∈ ptx t.2, PyData.strOk x = true
theorem TxOk.at {ats : List Atm} (h : TxOk ats) (i : Nat) : ∀ x ∈ namesAt ats i, PyData.strOk x = true := fun x hx => by
  unfold namesAt at hx
  by_cases hi : i < ats.length
  · rw [List.getD_eq_getElem?_getD, List.getElem?_eq_getElem hi] at hx
    exact h _ (List.getElem_mem hi) x hx
  · rw [List.getD_eq_getElem?_getD, List.getElem?_eq_none (by omega)] at hx
    simp [ptx] at hx
theorem tab_inj {ats : List Atm} (nd : (ats.map (·.1)).Nodup) {i j : Nat} (hi : i < ats.length) (hj : j < ats.length) (e : tabAt ats i = tabAt ats j) : i = j := by
  have ei := tab_get (List.getElem?_eq_getElem hi)
  have ej := tab_get (List.getElem?_eq_getElem hj)
  refine nodup_inj nd (by rw [List.length_map]; exact hi) (by rw [List.length_map]; exact hj) ?_
  rw [List.getElem_map, List.getElem_map, ← ei, ← ej, e]
theorem in_tabs {ats : List Atm} (nd : (ats.map (·.1)).Nodup) {k : Nat} {F : List Nat} (hk : k < ats.length) (hF : ∀ j ∈ F, j < ats.length) : inV (.str (tabAt ats k)) (tabsV ats F) = decide (k ∈ F) := by
  have e : tabsV ats F = (F.map (tabAt ats)).map V.str := by rw [List.map_map]; rfl
  rw [e, inV_str]
  by_cases h : k ∈ F
  · rw [decide_eq_true h, decide_eq_true (List.mem_map.mpr ⟨k, h, rfl⟩)]
  · rw [decide_eq_false h, decide_eq_false fun z => ?_]
    obtain ⟨j, hj, ej⟩ := List.mem_map.mp z
    rw [tab_inj nd (hF j hj) hk ej] at hj
    exact h hj
theorem flat_tabs (ats : List Atm) (F : List Nat) : (tabsV ats F).all flatV = true := by
  unfold tabsV
  rw [List.all_map]
  exact List.all_eq_true.mpr fun _ _ => rfl
theorem few_below {F : List Nat} {n : Nat} (nd : F.Nodup) (h : ∀ k ∈ F, k < n) : F.length ≤ n := by
  have p : F.Perm ((List.range n).filter fun k => decide (k ∈ F)) := (List.perm_ext_iff_of_nodup nd (List.filter_sublist.nodup List.nodup_range)).mpr fun k => by
    rw [List.mem_filter, List.mem_range, decide_eq_true_iff]
    exact ⟨fun z => ⟨h k z, z⟩, fun z => z.2⟩
  rw [p.length_eq]
  have := List.length_filter_le (fun k => decide (k ∈ F)) (List.range n)
  rw [List.length_range] at this
  exact this
structure RInv (ats : List Atm) (i0 p : Nat) (F : List Nat) : Prop where
  nd : F.Nodup
  lt : ∀ k ∈ F, k < ats.length
  start : i0 ∈ F
  sound : ∀ k ∈ F, Cn ats i0 k
  closed : ∀ q j, q < p → F[q]? = some j → ∀ k, k < ats.length → TT ats j k → k ∈ F
theorem RInv.push {ats : List Atm} {i0 p k : Nat} {F : List Nat} (h : RInv ats i0 p F) (hp : p ≤ F.length) (hk : k ∉ F) (c : Cn ats i0 k) : RInv ats i0 p (F ++ [k]) := by
  refine ⟨?_, fun j hj => ?_, List.mem_append_left _ h.start, fun j hj => ?_, fun q j hq e m hm t => ?_⟩
  · rw [List.nodup_append]
    refine ⟨h.nd, by simp, fun a ha b hb e => ?_⟩
    rw [List.mem_singleton.mp hb] at e
    rw [e] at ha
    exact hk ha
  · rcases List.mem_append.mp hj with hj | hj
    · exact h.lt j hj
    · rw [List.mem_singleton.mp hj]
      exact c.lt.2
  · rcases List.mem_append.mp hj with hj | hj
    · exact h.sound j hj
    · rw [List.mem_singleton.mp hj]
      exact c
  · rw [List.getElem?_append_left (by omega)] at e
    exact List.mem_append_left _ (h.closed q j hq e m hm t)
theorem RInv.next {ats : List Atm} {i0 p j : Nat} {F : List Nat} (h : RInv ats i0 p F) (hj : F[p]? = some j) (all : ∀ k, k < ats.length → TT ats j k → k ∈ F) : RInv ats i0 (p + 1) F :=
  ⟨h.nd, h.lt, h.start, h.sound, fun q i hq e => by
    by_cases c : q = p
    · rw [c, hj] at e
      cases e
      exact all
    · exact h.closed q i (by omega) e⟩
theorem RInv.done {ats : List Atm} {i0 p : Nat} {F : List Nat} (h : RInv ats i0 p F) (hp : F.length ≤ p) (k : Nat) : k ∈ F ↔ Cn ats i0 k :=
  closed_is (S := fun k => k ∈ F) h.start h.sound (fun j k hj t l => by
    obtain ⟨q, hq, e⟩ := List.getElem_of_mem hj
    exact h.closed q j (by omega) (by rw [List.getElem?_eq_getElem hq, e]) k l t) k
end Cut
set_option Elab.async false
set_option linter.all false
set_option maxRecDepth 100000
set_option maxHeartbeats 8000000
namespace Cut
open PySem PySem.Spec PyProof.Rows L2
abbrev NRe : List Str := ["own", "start", "without", "found", "place", "some", "name", "table"]
theorem scReached : FnScope NRe ["own", "start", "without"] (defScope sReached) := ⟨rfl, rfl, rfl, by decide +kernel, rfl, by decide +kernel, by decide +kernel⟩
theorem names_few {ats : List Atm} (few : Few ats) (i : Nat) : (namesAt ats i).length ≤ 6 := by
  unfold namesAt
  refine Nat.le_trans (ptx_len _) ?_
  by_cases hi : i < ats.length
  · rw [List.getD_eq_getElem?_getD, List.getElem?_eq_getElem hi]
    exact few.parts _ (List.getElem_mem hi)
  · rw [List.getD_eq_getElem?_getD, List.getElem?_eq_none (by omega)]
    exact Nat.zero_le _
theorem tt_filter {ats : List Atm} {j i : Nat} : ((namesAt ats i).filter fun x => decide (x ∈ namesAt ats j)).isEmpty = false ↔ TT ats j i := by
  unfold TT
  cases h : (namesAt ats i).filter fun x => decide (x ∈ namesAt ats j) with
  | nil =>
    refine ⟨fun z => (nomatch z), fun ⟨x, h1, h2⟩ => ?_⟩
    have m : x ∈ (namesAt ats i).filter fun x => decide (x ∈ namesAt ats j) := List.mem_filter.mpr ⟨h2, decide_eq_true h1⟩
    rw [h] at m
    exact absurd m (by simp)
  | cons x r =>
    refine ⟨fun _ => ?_, fun _ => rfl⟩
    have m : x ∈ (namesAt ats i).filter fun x => decide (x ∈ namesAt ats j) := by rw [h]; exact List.mem_cons_self
    obtain ⟨m1, m2⟩ := List.mem_filter.mp m
    exact ⟨x, of_decide_eq_true m2, m1⟩
section
variable {P : Program} {w : World} {K : PySem.W.Frag} {mg : Str → Option Value} {base : Heap}
def spReached (K : PySem.W.Frag) : Sp := fun vs H Q _ => ∃ (d wl : Addr) (o : Obj) (kvs : List (Key × V)) (ats : List Atm) (i0 : Nat), vs = [.ref d, .str (tabAt ats i0), .ref wl] ∧ OwnF K H d o kvs ats ∧ SqL K H wl [] ∧ i0 < ats.length ∧ Few ats ∧ (ats.map (·.1)).Nodup ∧ TxOk ats ∧
  ∀ (H' : Hp) (l : Addr) (F : List Nat), Same H H' → H l = none → H' l = some (.lst (tabsV ats F)) → (∀ k, k ∈ F ↔ Cn ats i0 k) → F.Nodup → Q (.ref l) H'
theorem ok_reached {f : Addr} {fd : FuncData} (F : Fun K "_law_reached" "_law_reached" sReached f fd) (B : Blt mg) : FnOk P w K mg base CX0 1 f fd ["own", "start", "without"] (spReached K) := by
  refine F.ok scReached (fun vs H Q E h => ?_) (fun cdv A outer s H vs Q E hr h => ?_)
  · obtain ⟨d, wl, o, kvs, ats, i0, rfl, _⟩ := h
    rfl
  · obtain ⟨d, wl, o, kvs, ats, i0, rfl, own, hw, hi0, few, dist, txok, fin⟩ := h
    have nd := scReached.nd
    have hu := hu_of hr
    have fm := few.many
    have ln : ∀ n : Nat, n ≤ 1000 → n ≤ sizeLine := fun n h => Nat.le_of_lt (small1000 h)
    refine ⟨_, pss_cons (ps_par (i := 3) (j := 4) (by rfl) nd rfl rfl (by decide) rfl rfl (pa_cons (pe_lst (pa_cons (pv 1) pa_nil)) (pa_cons pe_int pa_nil)) (by rfl))
      (pss_cons (ps_while PassesOwn.never (pt_cmpR op_lt (pv 4) (pe_callB call_len_seq (by rfl) B.len PySem.boot_len (pa_cons (pv 3) pa_nil)) (nomark _))
        (pss_cons (ps_set (i := 5) nd rfl (.inr rfl) (pe_lc (own := [("name", 6)]) (g := gName 6) (tt := tTest (tOp (rIn K true) (tVar 6) (tVar 2))) (te := tVar 6) (by rfl) nd (pi_list (pe_dget hu (pv 0) (pe_ix ix_list (pv 3) (pv 4) (fun _ _ => rfl)) (fun _ _ => rfl))) (blkOk_by (own := [("name", 6)]) (N := NRe) (sc := defScope sReached) (by decide +kernel))
            (fun _ _ _ _ _ => pg_name (i := 6) nd rfl (Or.inl rfl)) (fun _ _ _ _ _ => pts_one (pt_cmpR op_notIn_seq (pv 6) (pv 2) (by rfl))) (fun _ _ _ _ _ => pv 6)))
        (pss_cons (ps_for PassesOwn.never rfl (pi_keys (pv 0)) (pg_name (i := 7) nd rfl (.inl rfl))
          (pss_one (ps_if (PW.pt (pw_and (pt_cmpR op_notIn_seq (pv 7) (pv 3) (by rfl)) (pw_and1 (pt_cmpR (op_neD hr.units) (pe_lc (own := [("name", 6)]) (g := gName 6) (tt := tTest (tOp (rIn K false) (tVar 6) (tVar 5))) (te := tVar 6) (by rfl) nd (pi_list (pe_dget hu (pv 0) (pv 7) (fun _ _ => rfl))) (blkOk_by (own := [("name", 6)]) (N := NRe) (sc := defScope sReached) (by decide +kernel))
            (fun _ _ _ _ _ => pg_name (i := 6) nd rfl (Or.inl rfl)) (fun _ _ _ _ _ => pts_one (pt_cmpR op_in_seq (pv 6) (pv 5) (by rfl))) (fun _ _ _ _ _ => pv 6)) (pe_lst pa_nil) (nomark _)))))
            (pss_one (ps_expr (pe_bm PySem.F.plainAttrs_list PySem.F.slot_list_append PySem.F.type_list_append mt_append (pv 3) (pa_cons (pv 7) pa_nil)))) pss_nil)))
        (pss_one (ps_set (i := 4) nd rfl (.inl rfl) (pe_op op_add (pv 4) pe_int))))))
      (pss_one (ps_ret (pv 3)))), ?_⟩
    refine ⟨_, rfl, ln 1 (by decide), fun l nl => ⟨_, _, rfl, ?_⟩⟩
    have W0 : Same H (upd H l (.lst [.str (tabAt ats i0)])) := same_new nl
    refine ⟨fun m σ H1 => ∃ (F : List Nat) (p : Nat) (x5 x7 : Option V), σ = [some (.ref d), some (.str (tabAt ats i0)), some (.ref wl), some (.ref l), some (.int (p : Int)), x5, none, x7] ∧ Same H H1 ∧ H1 l = some (.lst (tabsV ats F)) ∧ RInv ats i0 p F ∧ p ≤ F.length ∧ m = ats.length - p,
      ⟨ats.length, [i0], 0, none, none, rfl, W0, upd_same, ⟨by simp, fun k hk => by rw [List.mem_singleton.mp hk]; exact hi0, by simp, fun k hk => by rw [List.mem_singleton.mp hk]; exact .refl hi0, fun q j hq => absurd hq (Nat.not_lt_zero q)⟩, Nat.zero_le _, rfl⟩, fun m σ H1 hW => ?_⟩
    obtain ⟨F, p, x5, x7, rfl, s1, hl, inv, pl, rfl⟩ := hW
    have fl := few_below inv.nd inv.lt
    have len1 : (tabsV ats F).length = F.length := List.length_map ..
    refine ⟨_, rfl, _, rfl, l, _, rfl, .inl (SqL.of hl), _, _, rfl, rfl, _, rfl, ?_⟩
    rw [len1]
    by_cases c : p < F.length
    · rw [decide_eq_true (by omega : (p : Int) < (F.length : Int))]
      refine iteT ⟨fun σ' H' => ∃ (F : List Nat) (x5 x7 : Option V), σ' = [some (.ref d), some (.str (tabAt ats i0)), some (.ref wl), some (.ref l), some (.int ((p + 1 : Nat) : Int)), x5, none, x7] ∧ Same H H' ∧ H' l = some (.lst (tabsV ats F)) ∧ RInv ats i0 (p + 1) F ∧ p + 1 ≤ F.length, fun σ' H' hN => ?_, ?_⟩
      · obtain ⟨F', x5', x7', e, a1, a2, a3, a4⟩ := hN
        exact ⟨ats.length - (p + 1), by omega, F', p + 1, x5', x7', e, a1, a2, a3, a4, rfl⟩
      · obtain ⟨j0, hj0⟩ : ∃ j0, F[p]? = some j0 := ⟨_, List.getElem?_eq_getElem c⟩
        have lj0 := inv.lt j0 (List.mem_of_getElem? hj0)
        obtain ⟨lj, dg, sq⟩ := (own.same s1).get dist lj0
        have at1 : atI (tabsV ats F) (p : Int) = some (.str (tabAt ats j0)) := atI_nat (by unfold tabsV; rw [List.getElem?_map, hj0]; rfl)
        refine ⟨_, rfl, _, rfl, _, rfl, l, _, p, _, rfl, rfl, SqL.of hl, at1, d, _, rfl, dg, lj, rfl, ⟨_, sq⟩, fun S nS => ?_⟩
        refine walk_list (xs := (namesAt ats j0).map V.str) (fun i H7 => Same H1 H7 ∧ H7 S = some (.lst (((namesAt ats j0).take i).map V.str))) ⟨same_new nS, upd_same⟩ (fun i H7 _ h => h.1.seq sq) ?_ ?_
        · rintro i x H7 hx ⟨sm, hS⟩
          rw [List.getElem?_map] at hx
          obtain ⟨z, hz, rfl⟩ := Option.map_eq_some_iff.mp hx
          have nf := names_few few j0
          refine ⟨rfl, ?_⟩
          refine ⟨_, rfl, _, rfl, wl, [], rfl, .inl ((s1.trans sm).seq hw), rfl, rfl, _, rfl, ?_⟩
          rw [if_pos rfl, show inV (.str z) [] = false from rfl, Bool.not_false]
          refine iteT ⟨_, rfl, _, hS, ?_, fun b o e => ?_, ?_⟩
          · rw [List.length_map, List.length_take]
            exact small1000 (by omega)
          · rw [upd_ne (ne_of_none e nS)]
            exact sm _ _ e
          · rw [upd_same, List.take_add_one, hz]
            simp
        rintro H2 ⟨s2, hS⟩
        rw [List.length_map, List.take_length] at hS
        have hl2 := s2 _ _ hl
        have Sl : S ≠ l := (ne_of_none hl nS).symm
        refine ⟨_, rfl, d, o, rfl, .inl ⟨kvs, (s1.trans s2) _ _ own.at_, ?_⟩⟩
        refine for_keys (fun i σ H' => ∃ (F : List Nat) (x7 : Option V), σ = [some (.ref d), some (.str (tabAt ats i0)), some (.ref wl), some (.ref l), some (.int (p : Int)), some (.ref S), none, x7] ∧ Same H H' ∧ H' l = some (.lst (tabsV ats F)) ∧ H' S = some (.lst ((namesAt ats j0).map V.str)) ∧ RInv ats i0 p F ∧ p < F.length ∧ F[p]? = some j0 ∧ ∀ k, k < i → k < ats.length → TT ats j0 k → k ∈ F)
          ⟨F, x7, rfl, s1.trans s2, hl2, hS, inv, c, hj0, fun k hk => absurd hk (Nat.not_lt_zero k)⟩ (fun i σ H' _ h => by obtain ⟨_, _, _, sm, _⟩ := h; exact sm _ _ own.at_) ?_ ?_
        · rintro i k v σ H' hk ⟨F, x7, rfl, sm, hl, hS, inv, c, hj0, all⟩
          obtain ⟨hi, ek⟩ := (own.same sm).key hk
          rw [ek]
          have fl := few_below inv.nd inv.lt
          refine ⟨_, rfl, _, rfl, l, _, rfl, .inl (SqL.of hl), rfl, flat_tabs ats F, _, rfl, ?_⟩
          rw [if_pos rfl, in_tabs dist hi inv.lt]
          by_cases hF : i ∈ F
          · rw [decide_eq_true hF, Bool.not_true]
            refine iteF (iteF ⟨F, _, rfl, sm, hl, hS, inv, c, hj0, fun k hk hk2 t => ?_⟩)
            by_cases e : k = i
            · rw [e]; exact hF
            · exact all k (by omega) hk2 t
          · rw [decide_eq_false hF, Bool.not_false]
            refine iteT ?_
            obtain ⟨li, dgi, sqi⟩ := (own.same sm).get dist hi
            refine ⟨_, rfl, _, rfl, d, _, rfl, dgi, li, rfl, ⟨_, sqi⟩, fun D nD => ?_⟩
            have nf := names_few few i
            refine walk_list (xs := (namesAt ats i).map V.str) (fun q H7 => Same H' H7 ∧ H7 D = some (.lst ((((namesAt ats i).take q).filter fun x => decide (x ∈ namesAt ats j0)).map V.str))) ⟨same_new nD, upd_same⟩ (fun i H7 _ h => h.1.seq sqi) ?_ ?_
            · rintro q x H7 hx ⟨sm7, hD⟩
              rw [List.getElem?_map] at hx
              obtain ⟨z, hz, rfl⟩ := Option.map_eq_some_iff.mp hx
              have ft := filter_take (fun x => decide (x ∈ namesAt ats j0)) (namesAt ats i) q z hz
              refine ⟨rfl, ?_⟩
              refine ⟨_, rfl, _, rfl, S, _, rfl, .inl (SqL.of (sm7 _ _ hS)), rfl, flat_strs' _, _, rfl, ?_⟩
              rw [if_neg Bool.false_ne_true, inV_str]
              by_cases hz2 : z ∈ namesAt ats j0
              · rw [if_pos (decide_eq_true hz2)] at ft
                rw [decide_eq_true hz2]
                refine iteT ⟨_, rfl, _, hD, ?_, fun b u e => ?_, ?_⟩
                · rw [List.length_map]
                  refine small1000 (Nat.le_trans (List.length_filter_le _ _) ?_)
                  rw [List.length_take]
                  omega
                · rw [upd_ne (ne_of_none e nD)]
                  exact sm7 _ _ e
                · rw [upd_same, ft, List.map_append]
                  rfl
              · rw [if_neg (by rw [decide_eq_false hz2]; exact Bool.false_ne_true), List.append_nil] at ft
                rw [decide_eq_false hz2]
                refine iteF ⟨sm7, ?_⟩
                rw [ft]
                exact hD
            rintro H8 ⟨s8, hD⟩
            rw [List.length_map, List.take_length] at hD
            refine ⟨Nat.zero_le _, fun e ne => ?_⟩
            have s9 := s8.trans (same_new (o := .lst []) ne)
            have hD9 := at_new (u := .lst []) hD ne
            have he9 : upd H8 e (.lst []) e = some (.lst []) := upd_same
            generalize upd H8 e (.lst []) = H9 at s9 hD9 he9 ⊢
            generalize hts : ((namesAt ats i).filter fun x => decide (x ∈ namesAt ats j0)) = ts at hD9 
            have tsok : ∀ x ∈ ts, PyData.strOk x = true := fun x hx => txok.at i x (by rw [← hts] at hx; exact (List.mem_filter.mp hx).1)
            have g := strs_layO ts tsok
            refine ⟨.list (ts.map .str), .list [], .lst (SqL.of hD9) (strs_dp ts), .lst (SqL.of he9) .nil, shaped_list g.1 (Nat.le_of_eq g.2) (by decide), by decide, _, rfl, ?_⟩
            rw [eqv_nil]
            have emp : (ts.map PyData.str).isEmpty = ts.isEmpty := by cases ts <;> rfl
            rw [emp]
            have tf := tt_filter (ats := ats) (j := j0) (i := i)
            rw [hts] at tf
            cases hte : ts.isEmpty with
            | true =>
              rw [Bool.not_true]
              refine iteF ⟨F, _, rfl, sm.trans s9, s9 _ _ hl, s9 _ _ hS, inv, c, hj0, fun k hk hk2 t => ?_⟩
              by_cases e : k = i
              · rw [e] at t
                rw [tf.mpr t] at hte
                cases hte
              · exact all k (by omega) hk2 t
            | false =>
              rw [Bool.not_false]
              have t := tf.mp hte
              have hl9 := s9 _ _ hl
              refine iteT ⟨_, rfl, .inl ⟨rfl, _, SqL.of hl9⟩, _, rfl, l, _, _, rfl, rfl, hl9, ?_, F ++ [i], _, rfl, ?_, ?_, ?_, inv.push (by omega) hF (.step (inv.sound j0 (List.mem_of_getElem? hj0)) t hi), ?_, ?_, fun k hk hk2 t2 => ?_⟩
              · unfold tabsV
                rw [List.length_map]
                exact small1000 (by omega)
              · exact fun b u e => by rw [upd_ne (ne_of_none e nl)]; exact (sm.trans s9) _ _ e
              · rw [upd_same]
                unfold tabsV
                rw [List.map_append]
                rfl
              · rw [upd_ne Sl]
                exact s9 _ _ hS
              · rw [List.length_append]
                omega
              · rw [List.getElem?_append_left c]
                exact hj0
              · by_cases e : k = i
                · rw [e]; exact List.mem_append_right _ (List.mem_singleton.mpr rfl)
                · exact List.mem_append_left _ (all k (by omega) hk2 t2)
        · rintro σ H' ⟨F, x7, rfl, sm, hl, hS, inv, c, hj0, all⟩
          have lk := paired_len own.own
          refine ⟨_, rfl, _, _, rfl, rfl, F, some (.ref S), x7, ?_, sm, hl, inv.next hj0 fun k hk t => all k (by omega) hk t, c⟩
          have e : (p : Int) + 1 = ((p + 1 : Nat) : Int) := by omega
          rw [← e]
          rfl
    · rw [decide_eq_false (by omega : ¬ (p : Int) < (F.length : Int))]
      refine iteF ⟨_, rfl, ?_⟩
      exact fin H1 l F s1 nl hl (inv.done (by omega)) inv.nd
end
end Cut
set_option Elab.async false
set_option linter.all false
set_option maxRecDepth 100000
set_option maxHeartbeats 8000000
namespace Cut
open PySem PySem.Spec PyProof.Rows L2
/-! ### the law's pieces -/
theorem ptx_mem {ps : List Key} {x : Str} (h : x ∈ ptx ps) : Sum.inr x ∈ ps := by
  obtain ⟨k, hk, e⟩ := List.mem_filterMap.mp h
  cases k with
  | inl i => cases e
  | inr y => cases e; exact hk
theorem GoodQ.nm {ats : List Atm} (g : GoodQ ats) {t : Atm} (ht : t ∈ ats) {x : Str} (h : x ∈ ptx t.2) : x ∈ NM := g.parts t ht _ (ptx_mem h)
theorem GoodQ.txok {ats : List Atm} (g : GoodQ ats) : TxOk ats := fun t ht x hx => (nm_ok x (g.nm ht hx)).1
theorem tab_mem {ats : List Atm} {i : Nat} (hi : i < ats.length) : tabAt ats i ∈ ats.map (·.1) := by
  rw [tab_get (List.getElem?_eq_getElem hi)]
  exact List.mem_map.mpr ⟨_, List.getElem_mem hi, rfl⟩
theorem GoodQ.tab {ats : List Atm} (g : GoodQ ats) {i : Nat} (hi : i < ats.length) : tabAt ats i ∈ NM := by
  rw [tab_get (List.getElem?_eq_getElem hi)]
  exact tb_nm (g.tabs _ (List.getElem_mem hi))
/-- a tuple of texts as data -/
def tD (xs : List Str) : PyData := .tuple (xs.map .str)
theorem tD_fit {xs : List Str} (h : ∀ x ∈ xs, x ∈ NM) (l : xs.length ≤ 6) : Fit (tD xs) 2 64 := by
  have f := (Fits.of (n := 1) (m := 8) (ds := xs.map .str) fun d hd => by
    obtain ⟨x, hx, rfl⟩ := List.mem_map.mp hd
    exact name_fit (h x hx)).tup
  refine f.mono (Nat.le_refl _) ?_
  rw [List.length_map]
  omega
theorem TxtAt.dp {K : PySem.W.Frag} {H : Hp} {v : V} {xs : List Str} (x : TxtAt K H v xs) : Dp K H v (tD xs) := by
  obtain ⟨a, rfl, h⟩ := x
  exact .tup h (strs_dp xs)
theorem txts_dp {K : PySem.W.Frag} {H : Hp} : ∀ {vs : List V} {xss : List (List Str)}, Paired (TxtAt K H) vs xss → DpAll K H vs (xss.map tD)
  | _, _, .nil => .nil
  | _, _, .cons h r => .cons h.dp (txts_dp r)
theorem txts_fit {xss : List (List Str)} (h : ∀ xs ∈ xss, (∀ x ∈ xs, x ∈ NM) ∧ xs.length ≤ 6) : Fits (xss.map tD) 2 (66 * xss.length) := by
  have f := Fits.of (n := 2) (m := 64) (ds := xss.map tD) fun d hd => by
    obtain ⟨xs, hx, rfl⟩ := List.mem_map.mp hd
    exact tD_fit (h xs hx).1 (h xs hx).2
  rw [List.length_map] at f
  exact f
theorem same_unlock {Hx H' : Hp} {d : Addr} {u f : HO} (hd : Hx d = some u) (s : Same (upd Hx d f) H') : Same Hx (upd H' d u) := fun b o e => by
  by_cases c : b = d
  · rw [c] at e ⊢
    rw [upd_same]
    rw [hd] at e
    exact e
  · rw [upd_ne c]
    exact s b o (by rw [upd_ne c]; exact e)
theorem seqT_off {K : PySem.W.Frag} {H : Hp} {a d : Addr} {xs : List V} {o : Obj} {kvs : List (Key × V)} {u : HO} (h : SqT K H a xs) (hd : H d = some (.frz o (.dK kvs))) : SqT K (upd H d u) a xs := by
  rcases h with (h | ⟨o, h⟩) | h
  · exact .inl (.inl (by rw [upd_ne (fun z => by rw [z, hd] at h; cases h)]; exact h))
  · exact .inl (.inr ⟨o, by rw [upd_ne (fun z => by rw [z, hd] at h; cases h)]; exact h⟩)
  · exact .inr h
def tabsOf (ats : List Atm) (g : List Nat) : List Str := g.map (tabAt ats)
theorem tabsOf_V (ats : List Atm) (g : List Nat) : (tabsOf ats g).map V.str = tabsV ats g := by
  unfold tabsOf tabsV
  rw [List.map_map]
  rfl
theorem in_tabsOf {ats : List Atm} (nd : (ats.map (·.1)).Nodup) {k : Nat} {F : List Nat} (hk : k < ats.length) (hF : ∀ j ∈ F, j < ats.length) : inV (.str (tabAt ats k)) ((tabsOf ats F).map V.str) = decide (k ∈ F) := by
  rw [tabsOf_V]
  exact in_tabs nd hk hF
theorem found_lt {ats : List Atm} {i : Nat} {g : List Nat} (h : g ∈ foundN ats i) : ∀ k ∈ g, k < ats.length := by
  unfold foundN at h
  obtain ⟨j, _, rfl⟩ := List.mem_map.mp h
  exact fun k hk => (mem_compN.mp hk).lt.2
theorem found_len {ats : List Atm} {i : Nat} {g : List Nat} (h : g ∈ foundN ats i) : g.length ≤ ats.length := by
  unfold foundN at h
  obtain ⟨j, _, rfl⟩ := List.mem_map.mp h
  unfold compN
  have := List.length_filter_le (cnB ats j) (List.range ats.length)
  rw [List.length_range] at this
  exact this
theorem found_many (ats : List Atm) (i : Nat) : (foundN ats i).length ≤ i := by
  unfold foundN
  rw [List.length_map]
  have := List.length_filter_le (lsB ats) (List.range i)
  rw [List.length_range] at this
  exact this
theorem tabsOf_ok {ats : List Atm} (g : GoodQ ats) {F : List Nat} (hF : ∀ j ∈ F, j < ats.length) : ∀ x ∈ tabsOf ats F, x ∈ NM := fun x hx => by
  obtain ⟨j, hj, rfl⟩ := List.mem_map.mp hx
  exact g.tab (hF j hj)
theorem has_filter {ats : List Atm} {i : Nat} (hi : i < ats.length) : ((foundN ats i).filter fun g => decide (i ∈ g)).isEmpty = lsB ats i := by
  have h := found_has hi
  cases e : (foundN ats i).filter fun g => decide (i ∈ g) with
  | nil =>
    cases l : lsB ats i with
    | true => rfl
    | false =>
      obtain ⟨g, hg, hi2⟩ := h.mpr l
      have m : g ∈ (foundN ats i).filter fun g => decide (i ∈ g) := List.mem_filter.mpr ⟨hg, decide_eq_true hi2⟩
      rw [e] at m
      exact absurd m (by simp)
  | cons g r =>
    have m : g ∈ (foundN ats i).filter fun g => decide (i ∈ g) := by rw [e]; exact List.mem_cons_self
    obtain ⟨m1, m2⟩ := List.mem_filter.mp m
    rw [h.mp ⟨g, m1, of_decide_eq_true m2⟩]
    rfl
abbrev NAl : List Str := ["question", "own", "found", "table", "piece", "some", "one"]
theorem scAll : FnScope NAl ["question"] (defScope sAllPieces) := ⟨rfl, rfl, rfl, by decide +kernel, rfl, by decide +kernel, by decide +kernel⟩
end Cut
set_option Elab.async false
set_option linter.all false
set_option maxRecDepth 100000
set_option maxHeartbeats 8000000
namespace Cut
open PySem PySem.Spec PyProof.Rows L2
section
variable {P : Program} {w : World} {K : PySem.W.Frag} {mg : Str → Option Value} {base : Heap}
def spAll (K : PySem.W.Frag) : Sp := fun vs H Q _ => ∃ (q : Addr) (head : List Str) (ats : List Atm), vs = [.ref q] ∧ QAt K H q head ats ∧ GoodQ ats ∧
  ∀ (H' : Hp) (r : Addr) (rs : List V), Same H H' → H r = none → H' r = some (.tup rs) → Paired (TxtAt K H') rs (piecesN ats) → Q (.ref r) H'
theorem ok_all {f fO fR : Addr} {fd fdO fdR : FuncData} (F : Fun K "_law_all_pieces" "_law_all_pieces" sAllPieces f fd) (B : Blt mg)
    (FO : Fun K "_law_own_names" "_law_own_names" sOwn fO fdO) (bO : Binds K fdO ["question"] []) (gO : mg "_law_own_names" = some (.ref fO)) (GO : FnOk P w K mg base CX0 1 fO fdO ["question"] (spOwn K))
    (FR : Fun K "_law_reached" "_law_reached" sReached fR fdR) (bR : Binds K fdR ["own", "start", "without"] []) (gR : mg "_law_reached" = some (.ref fR)) (GR : FnOk P w K mg base CX0 1 fR fdR ["own", "start", "without"] (spReached K)) :
    FnOk P w K mg base CX0 2 f fd ["question"] (spAll K) := by
  refine F.ok scAll (fun vs H Q E h => ?_) (fun cdv A outer s H vs Q E hr h => ?_)
  · obtain ⟨q, head, ats, rfl, _⟩ := h
    rfl
  · obtain ⟨q, head, ats, rfl, hq, good, fin⟩ := h
    have nd := scAll.nd
    have dist := good.dist
    have few := good.few6
    have fm := good.many
    refine ⟨_, pss_cons (ps_par (i := 1) (j := 2) (by rfl) nd rfl rfl (by decide) rfl rfl (pa_cons (pe_call GO hr (by rfl) gO FO.kp bO .nil pass0 (pa_cons (pv 0) pa_nil)) (pa_cons (pe_lst pa_nil) pa_nil)) (by rfl))
      (pss_cons (ps_lock (ps_for PassesOwn.never rfl (pi_keys (pv 1)) (pg_name (i := 3) nd rfl (.inr rfl))
        (pss_one (ps_if (pt_cmpR (op_eqD hr.units) (pe_lc (own := [("piece", 4)]) (g := gName 4) (tt := tTest (tOp (rIn K false) (tVar 3) (tVar 4))) (te := tVar 4) (by rfl) nd (pi_list (pv 2)) (blkOk_by (own := [("piece", 4)]) (N := NAl) (sc := defScope sAllPieces) (by decide +kernel))
            (fun _ _ _ _ _ => pg_name (i := 4) nd rfl (Or.inl rfl)) (fun _ _ _ _ _ => pts_one (pt_cmpR op_in_seq (pv 3) (pv 4) (by rfl))) (fun _ _ _ _ _ => pv 4)) (pe_lst pa_nil) (nomark _))
          (pss_cons (ps_set (i := 5) nd rfl (.inr rfl) (pe_call GR hr (by rfl) gR FR.kp bR .nil pass0 (pa_cons (pv 1) (pa_cons (pv 3) (pa_cons (pe_lst pa_nil) pa_nil)))))
          (pss_one (ps_expr (pe_bm PySem.F.plainAttrs_list PySem.F.slot_list_append PySem.F.type_list_append mt_append (pv 2) (pa_cons (pe_tupleOf (by rfl) B.tuple (pe_lc (own := [("one", 6)]) (g := gName 6) (tt := tTest (tOp (rIn K false) (tVar 6) (tVar 5))) (te := tVar 6) (by rfl) nd (pi_keys (pv 1)) (blkOk_by (own := [("one", 6)]) (N := NAl) (sc := defScope sAllPieces) (by decide +kernel))
            (fun _ _ _ _ _ => pg_name (i := 6) nd rfl (Or.inl rfl)) (fun _ _ _ _ _ => pts_one (pt_cmpR op_in_seq (pv 6) (pv 5) (by rfl))) (fun _ _ _ _ _ => pv 6))) pa_nil)))))
          pss_nil))))
      (pss_one (ps_ret (pe_tupleOf (by rfl) B.tuple (pv 2))))), ?_⟩
    refine ⟨_, rfl, q, head, ats, rfl, hq, few, dist, fun Hx d sx nd0 own => ⟨Nat.zero_le _, fun D nD => ⟨_, _, rfl, ?_⟩⟩⟩
    obtain ⟨kvs, hdx, pk⟩ := own
    have Dd : d ≠ D := ne_of_none hdx nD
    have nDH := sx.free nD
    refine ⟨d, .dK kvs, by rw [upd_ne Dd]; exact hdx, trivial, fun od => ?_⟩
    have ownL : OwnF K (upd Hx d (.frz od (.dK kvs))) d od kvs ats := ⟨upd_same, paired_mono (fun kv t y => by
      obtain ⟨y1, l, y2, y3⟩ := y
      exact ⟨y1, l, y2, seqL_off y3 hdx⟩) pk⟩
    have nDL : upd Hx d (.frz od (.dK kvs)) D = none := by rw [upd_ne Dd.symm]; exact nD
    have sL0 : Same (upd Hx d (.frz od (.dK kvs))) (upd (upd Hx D (.lst [])) d (.frz od (.dK kvs))) := fun b o e => by
      by_cases c : b = d
      · rw [c] at e ⊢
        rw [upd_same] at e ⊢
        exact e
      · rw [upd_ne c] at e ⊢
        rw [upd_ne (ne_of_none e nD)]
        exact e
    have hD0 : upd (upd Hx D (.lst [])) d (.frz od (.dK kvs)) D = some (.lst []) := by rw [upd_ne Dd.symm, upd_same]
    have unl : ∀ {H' : Hp}, Same (upd Hx d (.frz od (.dK kvs))) H' → Same Hx (upd H' d (.dK kvs)) := fun {H'} s => same_unlock hdx s
    generalize hHL : upd Hx d (.frz od (.dK kvs)) = HL at ownL nDL sL0 unl ⊢
    generalize upd (upd Hx D (.lst [])) d (.frz od (.dK kvs)) = H0 at sL0 hD0 ⊢
    refine ⟨_, rfl, d, od, rfl, .inl ⟨kvs, sL0 _ _ ownL.at_, ?_⟩⟩
    refine for_keys (fun i σ H' => ∃ (x3 x5 : Option V) (ws : List V), σ = [some (.ref q), some (.ref d), some (.ref D), x3, none, x5, none] ∧ Same HL H' ∧ H' D = some (.lst ws) ∧ Paired (TxtAt K H') ws ((foundN ats i).map (tabsOf ats)))
      ⟨none, none, [], rfl, sL0, hD0, .nil⟩ (fun i σ H' _ h => by obtain ⟨_, _, _, _, sm, _⟩ := h; exact sm _ _ ownL.at_) ?_ ?_
    · rintro i k v σ H1 hk ⟨x3, x5, ws, rfl, sm, hD, hws⟩
      obtain ⟨hi, ek⟩ := (ownL.same sm).key hk
      rw [ek]
      have lw := paired_len hws
      rw [List.length_map] at lw
      have fmany := found_many ats i
      refine ⟨_, rfl, D, rfl, ⟨_, SqL.of hD⟩, fun T nT => ?_⟩
      refine walk_list (xs := ws) (fun j H7 => Same H1 H7 ∧ ∃ us, H7 T = some (.lst us) ∧ Paired (TxtAt K H1) us ((((foundN ats i).take j).filter fun g => decide (i ∈ g)).map (tabsOf ats))) ⟨same_new nT, [], upd_same, .nil⟩ (fun j H7 _ h => SqL.of (h.1 _ _ hD)) ?_ ?_
      · rintro j x H7 hx ⟨sm7, us, hT, hus⟩
        obtain ⟨xs, hxs, hta⟩ := paired_get hws hx
        rw [List.getElem?_map] at hxs
        obtain ⟨g, hg, rfl⟩ := Option.map_eq_some_iff.mp hxs
        have hgm := List.mem_of_getElem? hg
        have ft := filter_take (fun g => decide (i ∈ g)) (foundN ats i) j g hg
        obtain ⟨a, rfl, ha⟩ := hta
        have lu := paired_len hus
        refine ⟨rfl, ?_⟩
        refine ⟨_, rfl, _, rfl, a, _, rfl, .inr (seqT sm7 ha), rfl, flat_strs' _, _, rfl, ?_⟩
        rw [if_neg Bool.false_ne_true, in_tabsOf dist hi (found_lt hgm)]
        by_cases hig : i ∈ g
        · rw [if_pos (decide_eq_true hig)] at ft
          rw [decide_eq_true hig]
          refine iteT ⟨_, rfl, _, hT, ?_, fun b u e => ?_, us ++ [.ref a], upd_same, ?_⟩
          · rw [lu, List.length_map]
            refine small1000 (Nat.le_trans (List.length_filter_le _ _) ?_)
            rw [List.length_take]
            omega
          · rw [upd_ne (ne_of_none e nT)]
            exact sm7 _ _ e
          · rw [ft, List.map_append]
            exact Paired.snoc hus ⟨a, rfl, ha⟩
        · rw [if_neg (by rw [decide_eq_false hig]; exact Bool.false_ne_true), List.append_nil] at ft
          rw [decide_eq_false hig]
          refine iteF ⟨sm7, us, hT, ?_⟩
          rw [ft]
          exact hus
      rintro H2 ⟨s2, us, hT, hus⟩
      rw [lw, List.take_length] at hus
      refine ⟨Nat.zero_le _, fun e ne => ?_⟩
      have s3 := s2.trans (same_new (o := .lst []) ne)
      have hT3 := at_new (u := .lst []) hT ne
      have he3 : upd H2 e (.lst []) e = some (.lst []) := upd_same
      generalize upd H2 e (.lst []) = H3 at s3 hT3 he3 ⊢
      have hus3 := paired_mono (fun _ _ y => TxtAt.same y s3) hus
      have fits := txts_fit (xss := ((foundN ats i).filter fun g => decide (i ∈ g)).map (tabsOf ats)) (fun xs hx => by
        obtain ⟨g, hg, rfl⟩ := List.mem_map.mp hx
        have hg := (List.mem_filter.mp hg).1
        refine ⟨tabsOf_ok good (found_lt hg), ?_⟩
        unfold tabsOf
        rw [List.length_map]
        have := found_len hg
        omega)
      refine ⟨.list _, .list [], .lst (SqL.of hT3) (txts_dp hus3), .lst (SqL.of he3) .nil, shaped_list fits.lay fits.dep (by decide), by decide, _, rfl, ?_⟩
      rw [eqv_nil]
      have emp : ((((foundN ats i).filter fun g => decide (i ∈ g)).map (tabsOf ats)).map tD).isEmpty = lsB ats i := by
        rw [← has_filter hi]
        cases (foundN ats i).filter fun g => decide (i ∈ g) <;> rfl
      rw [emp]
      have sH3 := sm.trans s3
      have hD3 := s3 _ _ hD
      have fs := foundN_succ ats i
      cases hl : lsB ats i with
      | false =>
        rw [if_neg (by rw [hl]; exact Bool.false_ne_true), List.append_nil] at fs
        refine iteF ⟨_, x5, ws, rfl, sH3, hD3, ?_⟩
        rw [fs]
        exact paired_mono (fun _ _ y => TxtAt.same y s3) hws
      | true =>
        rw [if_pos hl] at fs
        refine iteT ?_
        refine ⟨_, rfl, _, rfl, Nat.zero_le _, fun wl nwl => ?_⟩
        have s4 := s3.trans (same_new (o := .lst []) nwl)
        have hw4 : upd H3 wl (.lst []) wl = some (.lst []) := upd_same
        have hD4 := at_new (u := .lst []) hD3 nwl
        generalize upd H3 wl (.lst []) = H4 at s4 hw4 hD4 ⊢
        have sH4 := sm.trans s4
        refine ⟨d, wl, od, kvs, ats, i, rfl, ownL.same sH4, SqL.of hw4, hi, few, dist, good.txok, fun H5 l F s5 nl hl5 mem ndF => ?_⟩
        have ltF : ∀ k ∈ F, k < ats.length := fun k hk => ((mem k).mp hk).lt.2
        have sH5 := sH4.trans s5
        have hD5 := s5 _ _ hD4
        refine ⟨_, rfl, .inl ⟨rfl, _, SqL.of hD5⟩, _, rfl, d, od, rfl, .inl ⟨kvs, sH5 _ _ ownL.at_, fun E nE => ?_⟩⟩
        have lk := paired_len ownL.own
        refine walk_keysC (fun j H7 => Same H5 H7 ∧ H7 E = some (.lst (tabsV ats (((List.range ats.length).take j).filter fun k => decide (k ∈ F))))) ⟨same_new nE, upd_same⟩ (fun j H7 _ h => h.1 _ _ (sH5 _ _ ownL.at_)) ?_ ?_
        · rintro j k v H7 hk ⟨sm7, hE⟩
          obtain ⟨hj, ek⟩ := ((ownL.same sH5).same sm7).key hk
          rw [ek]
          have rt := range_take_filter ats.length j (fun k => decide (k ∈ F)) hj
          refine ⟨rfl, ?_⟩
          refine ⟨_, rfl, _, rfl, l, _, rfl, .inl (SqL.of (sm7 _ _ hl5)), rfl, flat_tabs ats F, _, rfl, ?_⟩
          rw [if_neg Bool.false_ne_true, in_tabs dist hj ltF]
          by_cases hjF : j ∈ F
          · rw [if_pos (decide_eq_true hjF)] at rt
            rw [decide_eq_true hjF]
            refine iteT ⟨_, rfl, _, hE, ?_, fun b u e => ?_, ?_⟩
            · unfold tabsV
              rw [List.length_map]
              refine small1000 (Nat.le_trans (List.length_filter_le _ _) ?_)
              rw [List.length_take]
              omega
            · rw [upd_ne (ne_of_none e nE)]
              exact sm7 _ _ e
            · rw [upd_same, rt]
              unfold tabsV
              rw [List.map_append]
              rfl
          · rw [if_neg (by rw [decide_eq_false hjF]; exact Bool.false_ne_true), List.append_nil] at rt
            rw [decide_eq_false hjF]
            refine iteF ⟨sm7, ?_⟩
            rw [rt]
            exact hE
        rintro H6 ⟨s6, hE⟩
        rw [lk, List.take_of_length_le (by rw [List.length_range]; exact Nat.le_refl _)] at hE
        have comp : (List.range ats.length).filter (fun k => decide (k ∈ F)) = compN ats i := by
          unfold compN
          refine List.filter_congr fun k _ => ?_
          by_cases c : k ∈ F
          · rw [decide_eq_true c, cnB_iff.mpr ((mem k).mp c)]
          · cases e : cnB ats i k with
            | false => exact decide_eq_false c
            | true => exact absurd ((mem k).mpr (cnB_iff.mp e)) c
        rw [comp, ← tabsOf_V] at hE
        refine .inl ⟨E, _, rfl, SqL.of hE, fun r nr => ?_⟩
        have hD6 := s6 _ _ hD5
        have rD : r ≠ D := (ne_of_none hD6 nr).symm
        refine ⟨D, ws, .ref r, rfl, rfl, at_new hD6 nr, ?_, ?_⟩
        · rw [lw]
          exact small1000 (by omega)
        have s7 := (s4.trans s5).trans (s6.trans (same_new (o := .tup ((tabsOf ats (compN ats i)).map V.str)) nr))
        refine ⟨_, _, ws ++ [.ref r], rfl, fun b u e => ?_, upd_same, ?_⟩
        · rw [upd_ne (ne_of_none e nDL)]
          exact s7 _ _ (sm _ _ e)
        · rw [fs, List.map_append]
          have keep : ∀ {a : Addr} {xs : List V}, SqT K (upd H6 r (.tup ((tabsOf ats (compN ats i)).map V.str))) a xs → SqT K (upd (upd H6 r (.tup ((tabsOf ats (compN ats i)).map V.str))) D (.lst (ws ++ [.ref r]))) a xs := fun {a xs} h => seqT_but (a := D) (l := ws) (fun b u n e => by rw [upd_ne n]; exact e) (at_new hD6 nr) h
          refine Paired.snoc (paired_mono (fun v xs y => ?_) hws) ⟨r, rfl, keep (SqT.of upd_same)⟩
          obtain ⟨a, ea, ha⟩ := y
          exact ⟨a, ea, keep (seqT s7 ha)⟩
    · rintro σ H' ⟨x3, x5, ws, rfl, sm, hD, hws⟩
      have lk := paired_len ownL.own
      rw [lk] at hws
      have hd' := sm _ _ ownL.at_
      refine ⟨hd', ?_⟩
      have su := unl sm
      have hDu : upd H' d (.dK kvs) D = some (.lst ws) := by rw [upd_ne Dd.symm]; exact hD
      refine ⟨_, rfl, .inl ⟨D, ws, rfl, SqL.of hDu, fun r nr => ?_⟩⟩
      have sF := (sx.trans su).trans (same_new (o := .tup ws) nr)
      refine fin _ r ws sF ((sx.trans su).free nr) upd_same ?_
      rw [piecesN_eq]
      refine paired_mono (fun v xs y => ?_) hws
      obtain ⟨a, ea, ha⟩ := y
      exact ⟨a, ea, seqT (same_new nr) (seqT_off ha hd')⟩
end
end Cut
set_option Elab.async false
set_option linter.all false
set_option maxRecDepth 100000
set_option maxHeartbeats 8000000
namespace Cut
open PySem PySem.Spec PyProof.Rows L2
abbrev NO : List Str := ["question", "piece", "atom"]
def inP (ts : List Str) (t : Atm) : Bool := decide (t.1 ∈ ts)
def spPartOf (K : PySem.W.Frag) : Sp := fun vs H Q _ => ∃ (q p : Addr) (head : List Str) (ats : List Atm) (ts : List Str), vs = [.ref q, .ref p] ∧ QAt K H q head ats ∧ Few ats ∧ SqT K H p (ts.map V.str) ∧
  ∀ (H' : Hp) (r : Addr), Same H H' → H r = none → QAt K H' r [] (ats.filter (inP ts)) → Q (.ref r) H'
theorem scPartBy : FnScope NO ["question", "piece"] (defScope sPartBy) := ⟨rfl, rfl, rfl, by decide +kernel, rfl, by decide +kernel, by decide +kernel⟩
section
variable {P : Program} {w : World} {K : PySem.W.Frag} {mg : Str → Option Value} {base : Heap}
theorem ok_partBy {f : Addr} {fd : FuncData} (F : Fun K "_law_part_by" "_law_part_by" sPartBy f fd) (B : Blt mg) : FnOk P w K mg base CX0 1 f fd ["question", "piece"] (spPartOf K) := by
  refine F.ok scPartBy (fun vs H Q E h => ?_) (fun cdv A outer s H vs Q E hr h => ?_)
  · obtain ⟨q, p, head, ats, ts, rfl, _⟩ := h
    rfl
  · obtain ⟨q, pc, head, ats, ts, rfl, hq, few, hp, fin⟩ := h
    obtain ⟨hd, sa, us, hq1, hq2, hq3, hq4⟩ := hq
    have len4 := paired_len hq4
    have nd := scPartBy.nd
    have ln : ∀ n : Nat, n ≤ 1000 → n ≤ sizeLine := fun n h => Nat.le_of_lt (small1000 h)
    refine ⟨_, pss_one (ps_ret (pe_tup (pa_cons (pe_tup pa_nil) (pa_cons (pe_tupleOf (by rfl) B.tuple (pe_lc (own := [("atom", 2)]) (g := gName 2) (tt := tTest (tOp (rIn K false) (tOp (rIxT K) (tVar 2) (tC (.int 0))) (tVar 1))) (by rfl) nd (pi_tup (pe_ix ix_tup (pv 0) pe_int (fun _ _ => rfl))) (blkOk_by (own := [("atom", 2)]) (N := NO) (sc := defScope sPartBy) (by decide +kernel))
        (fun _ _ _ _ _ => pg_name (i := 2) nd rfl (Or.inl rfl)) (fun _ _ _ _ _ => pts_one (pt_cmpR op_in_seq (pe_ix ix_tup (pv 2) pe_int (fun _ _ => rfl)) (pv 1) (by rfl))) (fun _ _ _ _ _ => pv 2))) pa_nil)))), ?_⟩
    refine ⟨Nat.zero_le _, fun e ne => ?_⟩
    have s0 : Same H (upd H e (.tup [])) := same_new ne
    have he : upd H e (.tup []) e = some (.tup []) := upd_same
    generalize upd H e (.tup []) = J at s0 he ⊢
    refine ⟨_, rfl, q, _, 1, .ref sa, rfl, rfl, seqT s0 hq1, rfl, sa, rfl, ⟨_, seqT s0 hq3⟩, fun D nD => ?_⟩
    refine walk_tup (xs := us) (fun k H7 => Same J H7 ∧ ∃ ws, H7 D = some (.lst ws) ∧ ws.length ≤ k ∧ Paired (AtAt K H) ws ((ats.take k).filter (inP ts))) ⟨same_new nD, [], upd_same, Nat.le_refl _, .nil⟩ (fun k H7 _ h => seqT (s0.trans h.1) hq3) ?_ ?_
    · rintro k x H7 hx ⟨sm, ws, hD, lw, hws⟩
      obtain ⟨t, ht, c, p, rfl, h1, h2⟩ := paired_get hq4 hx
      have hk := (List.getElem?_eq_some_iff.mp ht).1
      have fm := few.many
      have ft := filter_take (inP ts) ats k t ht
      have sH := s0.trans sm
      refine ⟨rfl, ?_⟩
      refine ⟨_, rfl, c, _, 0, .str t.1, rfl, rfl, seqT sH h1, rfl, _, rfl, pc, _, rfl, .inr (seqT sH hp), rfl, flat_strs' _, _, rfl, ?_⟩
      rw [if_neg Bool.false_ne_true, inV_str]
      have e1 : decide (t.1 ∈ ts) = inP ts t := rfl
      rw [e1]
      cases hi : inP ts t with
      | true =>
        rw [hi] at ft
        refine iteT ⟨_, rfl, _, hD, small1000 (by omega), fun b o e => ?_, ws ++ [.ref c], upd_same, by rw [List.length_append]; show ws.length + 1 ≤ k + 1; omega, ?_⟩
        · rw [upd_ne (ne_of_none e nD)]
          exact sm _ _ e
        · rw [ft]
          exact Paired.snoc hws ⟨c, p, rfl, h1, h2⟩
      | false =>
        rw [hi] at ft
        refine iteF ⟨sm, ws, hD, by omega, ?_⟩
        rw [ft]
        simpa using hws
    · rintro H7 ⟨sm, ws, hD, lw, hws⟩
      rw [len4, List.take_length] at hws
      refine .inl ⟨D, ws, rfl, SqL.of hD, fun r nr => ⟨ln 2 (by decide), fun z nz => ?_⟩⟩
      have s2 := (same_new (H := H7) (o := .tup ws) nr).trans (same_new (o := .tup [.ref e, .ref r]) nz)
      have sH := (s0.trans sm).trans s2
      refine fin _ z sH (((s0.trans sm).trans (same_new (o := .tup ws) nr)).free nz) ⟨e, r, ws, SqT.of upd_same, SqT.of (s2 _ _ (sm _ _ he)), SqT.of (at_new upd_same nz), paired_mono (fun _ _ y => AtAt.same y sH) hws⟩
end
end Cut
set_option Elab.async false
set_option linter.all false
set_option maxRecDepth 100000
set_option maxHeartbeats 8000000
namespace Cut
open PySem PySem.Spec PyProof.Rows L2
section
variable {P : Program} {w : World} {K : PySem.W.Frag} {mg : Str → Option Value} {base : Heap}
theorem ok_own {f : Addr} {fd : FuncData} (F : Fun K "_law_own_names" "_law_own_names" sOwn f fd) (B : Blt mg) : FnOk P w K mg base CX0 1 f fd ["question"] (spOwn K) := by
  refine F.ok scOwn (fun vs H Q E h => ?_) (fun cdv A outer s H vs Q E hr h => ?_)
  · obtain ⟨q, head, ats, rfl, _⟩ := h
    rfl
  · obtain ⟨q, head, ats, rfl, hq, few, dist, fin⟩ := h
    obtain ⟨hd, sa, us, hq1, hq2, hq3, hq4⟩ := hq
    have len4 := paired_len hq4
    have nd := scOwn.nd
    have fm := few.many
    refine ⟨_, pss_cons (ps_set (i := 1) nd rfl (.inl rfl) pe_dnewK)
      (pss_cons (ps_for PassesOwn.never rfl (pi_tup (pe_ix ix_tup (pv 0) pe_int (fun _ _ => rfl))) (pg_tup (by rfl) (pgs_cons (pg_name (i := 2) nd rfl (.inl rfl)) (pgs_cons (pg_name (i := 3) nd rfl (.inl rfl)) pgs_nil)))
        (pss_one (ps_asg (pe_lc (own := [("part", 4)]) (g := gName 4) (by rfl) nd (pi_tup (pv 3)) (blkOk_by (own := [("part", 4)]) (N := NOw) (sc := defScope sOwn) (by decide +kernel))
          (fun _ _ _ _ _ => pg_name (i := 4) nd rfl (Or.inl rfl))
          (fun _ _ _ _ _ => pts_one (pt_val (pe_callB (id := "isinstance") (r := rIsi K) call_isi (by rfl) B.isi (by decide +kernel) (pa_cons (pv 4) (pa_cons (pe_bltn (v := .ty "str") (by rfl) B.str (by decide +kernel) rfl) pa_nil)))))
          (fun _ _ _ _ _ => pv 4)) (pg_sub (pv 1) (pv 2) (set_dict (hu_of hr))))))
      (pss_one (ps_ret (pv 1)))), ?_⟩
    refine fun D nD => ?_
    refine ⟨_, rfl, q, _, 1, .ref sa, rfl, rfl, seqT (same_new nD) hq1, rfl, sa, rfl, ⟨_, seqT (same_new nD) hq3⟩, ?_⟩
    refine for_tup (xs := us) (fun i σ H7 => ∃ x2 x3, σ = [some (.ref q), some (.ref D), x2, x3, none] ∧ Same H H7 ∧ ∃ kvs, H7 D = some (.dK kvs) ∧ Paired (OwnKv K H7) kvs (ats.take i)) ⟨none, none, rfl, same_new nD, [], upd_same, .nil⟩ (fun i σ H7 _ h => by obtain ⟨_, _, _, sm, _⟩ := h; exact seqT sm hq3) ?_ ?_
    · rintro i x σ H7 hx ⟨x2, x3, rfl, sm, kvs, hD, hkv⟩
      obtain ⟨t, ht, c, p, rfl, h1, h2⟩ := paired_get hq4 hx
      have fp := few.parts t (List.mem_of_getElem? ht)
      have lk := paired_len hkv
      refine ⟨c, [.str t.1, .ref p], rfl, seqT sm h1, rfl, .str t.1, [.ref p], rfl, .ref p, [], rfl, rfl, ?_⟩
      refine ⟨_, rfl, p, rfl, ⟨_, seqT sm h2⟩, fun l nl => ?_⟩
      refine walk_tup (xs := t.2.map kV) (fun j H8 => Same H7 H8 ∧ H8 l = some (.lst ((ptx (t.2.take j)).map V.str))) ⟨same_new nl, upd_same⟩ (fun j H8 _ h => seqT h.1 (seqT sm h2)) ?_ ?_
      · rintro j y H8 hy ⟨sm8, hl⟩
        obtain ⟨k, hk, rfl⟩ := get_key hy
        refine ⟨rfl, ?_⟩
        refine ⟨_, rfl, _, _, _, _, isN k, rfl, .ty "str", tyX_key k, kit_key k, _, rfl, ?_⟩
        have hn := ptx_take hk
        have small : ((ptx (t.2.take j)).map V.str).length < sizeLine := by
          have h1 := ptx_len (t.2.take j)
          rw [List.length_take] at h1
          rw [List.length_map]
          exact small1000 (by omega)
        cases k with
        | inl z =>
          refine iteF ⟨sm8, ?_⟩
          rw [hn]
          simpa [txt] using hl
        | inr x =>
          refine iteT ⟨_, rfl, _, hl, small, fun b o e => ?_, ?_⟩
          · rw [upd_ne (ne_of_none e nl)]
            exact sm8 _ _ e
          · rw [upd_same, hn, List.map_append]
            rfl
      · rintro H8 ⟨s8, hl⟩
        rw [List.length_map, List.take_length] at hl
        have nlD : l ≠ D := (ne_of_none hD nl).symm
        have hD8 := s8 _ _ hD
        refine ⟨_, rfl, _, rfl, D, _, rfl, DPut.k (k := .inr t.1) hD8 ?_, ?_⟩
        · rw [lk, List.length_take]
          exact small1000 (by omega)
        rw [putK_new _ (keys_new hkv (new_at dist ht))]
        refine ⟨_, _, rfl, fun b o e => ?_, _, upd_same, ?_⟩
        · rw [upd_ne (ne_of_none e nD)]
          exact s8 _ _ (sm _ _ e)
        · rw [List.take_add_one, ht]
          refine Paired.snoc (paired_mono (fun kv u y => ?_) hkv) ⟨rfl, l, rfl, SqL.of (by rw [upd_ne nlD]; exact hl)⟩
          obtain ⟨y1, m, y2, y3⟩ := y
          exact ⟨y1, m, y2, seqL_off (s8.seq y3) hD8⟩
    · rintro σ H7 ⟨x2, x3, rfl, sm, kvs, hD, hkv⟩
      rw [len4, List.take_length] at hkv
      exact ⟨_, rfl, fin H7 D sm nD ⟨kvs, hD, hkv⟩⟩
end
end Cut
set_option Elab.async false
set_option linter.all false
set_option maxRecDepth 100000
set_option maxHeartbeats 4000000
namespace Cut
open PySem PySem.Spec PyProof.Rows L2
/-! ### zip of two tuples -/
def ItzT (K : PySem.W.Frag) (a b : Addr) (n1 n2 : Nat) : It :=
  ⟨fun i H => i ≤ n1 ∧ i ≤ n2 ∧ ∃ (xs ys : List V) (x y : V), SqT K H a xs ∧ SqT K H b ys ∧ xs.length = n1 ∧ ys.length = n2 ∧ xs[i]? = some x ∧ ys[i]? = some y,
    fun i H v H' => ∃ T x y, v = .ref T ∧ H T = none ∧ H' = upd H T (.tup [x, y]) ∧ (∀ xs, SqT K H a xs → xs[i]? = some x) ∧ ∀ ys, SqT K H b ys → ys[i]? = some y,
    fun i H => i ≤ n1 ∧ i ≤ n2 ∧ ∃ xs ys : List V, SqT K H a xs ∧ SqT K H b ys ∧ xs.length = n1 ∧ ys.length = n2 ∧ (i = n1 ∨ i = n2)⟩
theorem turn_zipT {P : Program} {w : World} {K : PySem.W.Frag} {elts : List Expr} {kk : Nat} {tpos : Pos} {a b z TI TO i1 i2 : Addr} {n1 n2 : Nat} (S : ZipSep2 z TI TO i1 i2 [i1, a] [i2, b]) (na : a ≠ i1) (nb : b ≠ i2) :
    Turn P w K (.Tuple elts kk tpos) (ItzT K a b n1 n2) [z, TI, TO, i1, i2] z (fun i h => IsZip h z TI TO .none ∧ IsTupOf2 h TI (.ref i1) (.ref i2) ∧ (∃ x y, IsTupOf2 h TO x y) ∧ h.IsTupleIter i1 a i ∧ h.IsTupleIter i2 b i) where
  mem := by simp
  obj := fun i h st c hc => by
    obtain ⟨hz, hTI, ⟨x, y, hTO⟩, ⟨o1, e1, _, d1⟩, ⟨o2, e2, _, d2⟩⟩ := st
    have e' : c = z ∨ c = TI ∨ c = TO ∨ c = i1 ∨ c = i2 := by simpa using hc
    rcases e' with q | q | q | q | q
    · rw [q]; exact ⟨_, hz, fun v q => nomatch q⟩
    · rw [q]; exact ⟨_, hTI, fun v q => nomatch q⟩
    · rw [q]; exact ⟨_, hTO, fun v q => nomatch q⟩
    · rw [q]; exact ⟨o1, e1, fun v q => by rw [d1] at q; cases q⟩
    · rw [q]; exact ⟨o2, e2, fun v q => by rw [d2] at q; cases q⟩
  keep := fun i h h' st k => by
    obtain ⟨hz, hTI, ⟨x, y, hTO⟩, h1, h2⟩ := st
    exact ⟨k z (by simp) _ hz, k TI (by simp) _ hTI, ⟨x, y, k TO (by simp) _ hTO⟩, h1.at fun o q => k i1 (by simp) o q, h2.at fun o q => k i2 (by simp) o q⟩
  item := by
    intro X hP hw hK hc i pins s σ H E I hf st hg
    subst hP hw hK
    obtain ⟨hz, hTI, ⟨x0, y0, hTO⟩, h1, h2⟩ := st
    obtain ⟨_, _, xs, ys, x, y, hqx, hqy, en1, en2, hx, hy⟩ := hg
    obtain ⟨its, rv, p, _⟩ := I.tuple hqx
    obtain ⟨its2, rv2, p2, _⟩ := I.tuple hqy
    obtain ⟨u, hu, ru⟩ := rv.get hx
    obtain ⟨u2, hu2, ru2⟩ := rv2.get hy
    have hzl : z < s.heap.objs.size := Heap.lt_size hz
    refine wpAny_pyNext_zipD2_item S (Draws.tuple (A := X.A.in1) (I.ok.hd hc) i1 a na its.toArray) (Draws.tuple (A := X.A.in1) (I.ok.hd hc) i2 b nb its2.toArray) hz hTI hTO ⟨h1, p⟩ ⟨h2, p2⟩
      (by rw [List.size_toArray]; exact (List.getElem?_eq_some_iff.mp hu).1) (by rw [List.size_toArray]; exact (List.getElem?_eq_some_iff.mp hu2).1) fun v1 v2 h' tk hv1 hv2 z' TO' t1 t2 hT hsz hk => ?_
    have ev1 : v1 = u := by
      have hv1 : its.toArray[i]? = some v1 := hv1
      rw [List.getElem?_toArray, hu] at hv1
      exact (Option.some.inj hv1).symm
    have ev2 : v2 = u2 := by
      have hv2 : its2.toArray[i]? = some v2 := hv2
      rw [List.getElem?_toArray, hu2] at hv2
      exact (Option.some.inj hv2).symm
    subst ev1 ev2
    refine ⟨_, rfl, wpAny_letOwnedTupleGo_zip (s := { s with heap := h', toks := tk }) z' fun h'' z'' sb => ?_⟩
    have hT2 : h''.get? s.heap.objs.size = some { cls := .type "tuple", data := .seq #[v1, v2] } := (sb.2 _ (Nat.ne_of_gt hzl)).trans hT
    have new : ObjOk X.prog X.w (upd H s.heap.objs.size (.tup [x, y])) h'' s.heap.objs.size (.tup [x, y]) :=
      ⟨by show 2 ≤ sizeLine; decide, [v1, v2], .cons ru (.cons ru2 .nil), ⟨_, hT2, rfl, _, rfl⟩⟩
    have I1 : Inv X pins σ (upd H s.heap.objs.size (.tup [x, y])) { s with heap := h'', toks := tk } :=
      I.turnedNew (t' := tk) (ch := [z, TI, TO, i1, i2]) (fun c o hb q => (sb.2 c (fun q' => hb (by simp [q']))).trans (hk c o (fun q' => hb (by simp [q'])) (fun q' => hb (by simp [q'])) (fun q' => hb (by simp [q'])) (fun q' => hb (by simp [q'])) q)) hf (Nat.le_refl _) new
    refine ⟨.ref s.heap.objs.size, _, I1, rfl, ⟨_, x, y, rfl, I.hok.fresh (Nat.le_refl _), rfl, fun l hl => by rw [I.tuple_inj hl hqx]; exact hx, fun l hl => by rw [I.tuple_inj hl hqy]; exact hy⟩, ⟨z'', ?_, ⟨v1, v2, ?_⟩, ?_, ?_⟩, fun c hcm => ?_⟩
    · exact (sb.2 _ S.TIz).trans (hk _ _ S.TIz S.TITO S.TIi1 S.TIi2 hTI)
    · exact (sb.2 _ S.TOz).trans TO'
    · exact t1.1.at fun o q => (sb.2 _ S.zi1.symm).trans q
    · exact t2.1.at fun o q => (sb.2 _ S.zi2.symm).trans q
    · have hlt : c < s.heap.objs.size := by
        have e' : c = z ∨ c = TI ∨ c = TO ∨ c = i1 ∨ c = i2 := by simpa using hcm
        rcases e' with q | q | q | q | q
        · rw [q]; exact hzl
        · rw [q]; exact Heap.lt_size hTI
        · rw [q]; exact Heap.lt_size hTO
        · rw [q]; obtain ⟨_, e1, _⟩ := h1; exact Heap.lt_size e1
        · rw [q]; obtain ⟨_, e2, _⟩ := h2; exact Heap.lt_size e2
      rw [upd_ne (Nat.ne_of_lt hlt)]
      exact (hf c hcm).1
  done := by
    intro X hP hw hK hc i pins s σ H E I hf st hg
    subst hP hw hK
    obtain ⟨hz, hTI, ⟨x0, y0, hTO⟩, h1, h2⟩ := st
    obtain ⟨le1, le2, xs, ys, hqx, hqy, en1, en2, hend⟩ := hg
    obtain ⟨its, rv, p, _⟩ := I.tuple hqx
    obtain ⟨its2, rv2, p2, _⟩ := I.tuple hqy
    have l1 := rv.length
    have l2 := rv2.length
    exact wpAny_pyNext_zipD2_end S (Draws.tuple (A := X.A.in1) (I.ok.hd hc) i1 a na its.toArray) (Draws.tuple (A := X.A.in1) (I.ok.hd hc) i2 b nb its2.toArray) hz hTI hTO ⟨h1, p⟩ ⟨h2, p2⟩
      (by rw [List.size_toArray]; omega) (by rw [List.size_toArray]; omega) (by rw [List.size_toArray, List.size_toArray]; omega) fun h' tk hk => ⟨rfl, I.turnedL (t' := tk) (ch := [z, TI, TO, i1, i2]) (fun c o hb q =>
      hk c o (fun q' => hb (by simp [q'])) (fun q' => hb (by simp [q'])) (fun q' => hb (by simp [q'])) (fun q' => hb (by simp [q'])) q) hf⟩
  self := fun A i s Q E st h => wpAny_pyIter_zip st.1 h
theorem sepT (n a b : Nat) (la : a < n) (lb : b < n) : ZipSep2 (n + 4) (n + 2) (n + 3) n (n + 1) [n, a] [n + 1, b] := by
  have h1 : a ≠ n := by omega
  have h2 : b ≠ n := by omega
  have h3 : ∀ k : Nat, ¬ n + k = a := fun k => by omega
  have h4 : ∀ k : Nat, ¬ n + k = b := fun k => by omega
  have h5 : ∀ j k : Nat, j ≠ k → ¬ n + j = n + k := fun j k h => by omega
  have h6 : ∀ k : Nat, k ≠ 0 → ¬ n + k = n := fun k h => by omega
  have h7 : ∀ k : Nat, k ≠ 0 → ¬ n = n + k := fun k h => by omega
  have h8 : ¬ n = b := fun z => h2 z.symm
  refine ⟨h5 2 4 (by decide), h5 3 4 (by decide), h5 2 3 (by decide), h6 2 (by decide), List.mem_cons_self, fun m => ?_, fun m => ?_, h5 2 1 (by decide), List.mem_cons_self, fun m => ?_, fun m => ?_, fun m => ?_, fun m => ?_⟩
  · rcases List.mem_cons.mp m with z | z
    · exact h6 4 (by decide) z
    · exact h3 4 (List.mem_singleton.mp z)
  · rcases List.mem_cons.mp m with z | z
    · exact h6 3 (by decide) z
    · exact h3 3 (List.mem_singleton.mp z)
  · rcases List.mem_cons.mp m with z | z
    · exact h5 4 1 (by decide) z
    · exact h4 4 (List.mem_singleton.mp z)
  · rcases List.mem_cons.mp m with z | z
    · exact h5 3 1 (by decide) z
    · exact h4 3 (List.mem_singleton.mp z)
  · rcases List.mem_cons.mp m with z | z
    · exact h7 1 (by decide) z
    · exact h8 (List.mem_singleton.mp z)
  · rcases List.mem_cons.mp m with z | z
    · exact h6 1 (by decide) z
    · exact h3 1 (List.mem_singleton.mp z)
def iZipT (K : PySem.W.Frag) (ta : TA) : TI := fun σ H R => ta σ H fun vs H1 => ∃ a b xs ys, vs = [.ref a, .ref b] ∧ SqT K H1 a xs ∧ SqT K H1 b ys ∧ R (ItzT K a b xs.length ys.length) H1
theorem pi_zipT {X : Cx} {e e2 : Expr} {ta : TA} {p pos tpos : Pos} {elts : List Expr} {kk : Nat} (hg : Gl X "zip") (hm : X.mg "zip" = none) (ha : PA X [e, e2] ta)
    (hs : starEach [e, e2] X.env = (false, eval e X.env) :: starEach [e2] X.env := by rfl) (hpl : (backTo pos (starEach [e2] X.env)).any (·.1) = false := by rfl) :
    PI X (.Tuple elts kk tpos) (.Call (.Name "zip" p) [e, e2] [] pos) (iZipT X.K ta) := by
  refine ⟨fun pins s σ H R I h => ?_⟩
  refine Call_ (ld_blt I hg hm PyProof.Rows.boot_zip (PyProof.Rows.callWith_type1 (thn (ha.run pos pins s σ H _ I h) fun us s1 ⟨vs, H1, I1, r1, q1⟩ => ?_) hs hpl))
  obtain ⟨a, b, xs, ys, ex, hqx, hqy, q⟩ := q1
  subst ex
  cases r1 with
  | cons r rr =>
    cases rr with
    | cons r' rr =>
      cases rr
      cases r
      cases r'
      obtain ⟨its, rv, p1, _⟩ := I1.tuple hqx
      obtain ⟨its2, rv2, p2, _⟩ := I1.tuple hqy
      obtain ⟨o1, ho1, _⟩ := id p1
      have la : a < s1.heap.objs.size := Heap.lt_size ho1
      obtain ⟨o2, ho2, _⟩ := id p2
      have lb : b < s1.heap.objs.size := Heap.lt_size ho2
      refine zip_begins2 (begins_tuple a its.toArray) (begins_tuple b its2.toArray) p1 p2 fun h' hz hTI hTO h1 h2 hsz hk => wpAny_pyIter_zip hz ?_
      have I2 : Inv X pins σ H1 { s1 with heap := h' } := I1.kept (t' := s1.toks) hk
      have sep := sepT s1.heap.objs.size a b la lb
      refine ⟨s1.heap.objs.size + 4, [s1.heap.objs.size + 4, s1.heap.objs.size + 2, s1.heap.objs.size + 3, s1.heap.objs.size, s1.heap.objs.size + 1], _, _, H1, rfl, I2, turn_zipT sep (Nat.ne_of_lt la) (Nat.ne_of_lt (Nat.lt_succ_of_lt lb)), ⟨hz, hTI, ⟨_, _, hTO⟩, ⟨_, h1, rfl, rfl⟩, ⟨_, h2, rfl, rfl⟩⟩, fun c hcm => ?_, q⟩
      have e' : c = s1.heap.objs.size + 4 ∨ c = s1.heap.objs.size + 2 ∨ c = s1.heap.objs.size + 3 ∨ c = s1.heap.objs.size ∨ c = s1.heap.objs.size + 1 := by simpa using hcm
      have hle : s1.heap.objs.size ≤ c := by
        rcases e' with z | z | z | z | z
        · rw [z]; exact Nat.le_add_right _ _
        · rw [z]; exact Nat.le_add_right _ _
        · rw [z]; exact Nat.le_add_right _ _
        · rw [z]; exact Nat.le_refl _
        · rw [z]; exact Nat.le_add_right _ _
      exact I1.fpOk hle (I1.hok.fresh hle)
theorem walk_zipT {K : PySem.W.Frag} {a b : Addr} {xs ys : List V} {H0 : Hp} {Done : Hp → Prop} {Body : Nat → V → Hp → (Hp → Prop) → Prop} (Pv : Nat → Hp → Prop) (h0 : Pv 0 H0) (hl : ∀ i H, Pv i H → SqT K H a xs ∧ SqT K H b ys)
    (turn : ∀ i x y H T, xs[i]? = some x → ys[i]? = some y → Pv i H → H T = none → Body i (.ref T) (upd H T (.tup [x, y])) (Pv (i + 1))) (fin : ∀ H, Pv (min xs.length ys.length) H → Done H) :
    ∃ W : Nat → Nat → Hp → Prop, (∃ m, W 0 m H0) ∧ ∀ i m H, W i m H →
      ((ItzT K a b xs.length ys.length).stop i H ∧ Done H) ∨ ((ItzT K a b xs.length ys.length).go i H ∧ ∃ Nx : Hp → Prop, (∀ H', Nx H' → ∃ m', m' < m ∧ W (i + 1) m' H') ∧ ∀ x H', (ItzT K a b xs.length ys.length).yld i H x H' → Body i x H' Nx) := by
  refine ⟨fun i m H => m + i = min xs.length ys.length ∧ Pv i H, ⟨_, rfl, h0⟩, fun i m H h => ?_⟩
  obtain ⟨em, p⟩ := h
  obtain ⟨qa, qb⟩ := hl i H p
  by_cases lt : i < min xs.length ys.length
  · have l1 : i < xs.length := by omega
    have l2 : i < ys.length := by omega
    refine .inr ⟨⟨by omega, by omega, xs, ys, xs[i], ys[i], qa, qb, rfl, rfl, List.getElem?_eq_getElem l1, List.getElem?_eq_getElem l2⟩, Pv (i + 1), fun H' p' => ⟨m - 1, by omega, by omega, p'⟩, fun x H' y => ?_⟩
    obtain ⟨T, u, v, rfl, hT, rfl, hu, hv⟩ := y
    exact turn i u v H T (hu xs qa) (hv ys qb) p hT
  · have e : i = min xs.length ys.length := by omega
    refine .inl ⟨⟨by omega, by omega, xs, ys, qa, qb, rfl, rfl, by omega⟩, ?_⟩
    subst e
    exact fin H p
/-- turns over a locked dict's entries, in a comprehension -/
theorem walk_itemsC {d : Addr} {o : Obj} {kvs : List (Key × V)} {H0 : Hp} {Done : Hp → Prop} {Body : Nat → V → Hp → (Hp → Prop) → Prop} (Pv : Nat → Hp → Prop) (h0 : Pv 0 H0) (hl : ∀ i H, i ≤ kvs.length → Pv i H → H d = some (.frz o (.dK kvs)))
    (turn : ∀ i k v T H, kvs[i]? = some (k, v) → Pv i H → H T = none → Body i (.ref T) (upd H T (.tup [kV k, v])) (Pv (i + 1))) (fin : ∀ H, Pv kvs.length H → Done H) :
    ∃ W : Nat → Nat → Hp → Prop, (∃ m, W 0 m H0) ∧ ∀ i m H, W i m H →
      ((Iti d o kvs).stop i H ∧ Done H) ∨ ((Iti d o kvs).go i H ∧ ∃ Nx : Hp → Prop, (∀ H', Nx H' → ∃ m', m' < m ∧ W (i + 1) m' H') ∧ ∀ x H', (Iti d o kvs).yld i H x H' → Body i x H' Nx) := by
  refine ⟨fun i m H => m + i = kvs.length ∧ Pv i H, ⟨kvs.length, rfl, h0⟩, fun i m H h => ?_⟩
  obtain ⟨em, p⟩ := h
  have at_ := hl i H (by omega) p
  by_cases lt : i < kvs.length
  · refine .inr ⟨⟨at_, lt⟩, Pv (i + 1), fun H' p' => ⟨m - 1, by omega, by omega, p'⟩, fun x H' y => ?_⟩
    obtain ⟨T, k, v, hk, rfl, hT, rfl⟩ := y
    exact turn i k v T _ hk p hT
  · have e : i = kvs.length := by omega
    subst e
    exact .inl ⟨⟨at_, Nat.le_refl _⟩, fin H p⟩
end Cut
set_option Elab.async false
set_option linter.all false
set_option maxRecDepth 100000
set_option maxHeartbeats 8000000
namespace Cut
open PySem PySem.Spec PyProof.Rows L2
/-! ### whether a table rules another one, as the program looks at it -/
theorem OwnAt.get {K : PySem.W.Frag} {H : Hp} {d : Addr} {ats : List Atm} (x : OwnAt K H d ats) (nd : (ats.map (·.1)).Nodup) {i : Nat} (hi : i < ats.length) :
    ∃ l, DGet H d (.str (tabAt ats i)) (some (.ref l)) ∧ SqL K H l ((namesAt ats i).map V.str) := by
  obtain ⟨kvs, l, h1, h2, h3⟩ := own_get x nd hi
  have g := DGet.k (k := .inr (tabAt ats i)) h1
  rw [h2] at g
  exact ⟨l, g, h3⟩
theorem eqv_int1 (i j : Int) : PyData.eqv (.tuple [.int i]) (.tuple [.int j]) = decide (i = j) := by
  simp [PyData.eqv, PyData.eqvAll]
  rfl
theorem OwnAt.off {K : PySem.W.Frag} {H H' : Hp} {d : Addr} {ats : List Atm} (x : OwnAt K H d ats) (e : Same H H') : OwnAt K H' d ats := x.same e
theorem PricesAt.int {H : Hp} {d : Addr} {ats : List Atm} {ps : List (Str × V)} (x : PricesAt H d ats ps) {i : Nat} (hi : i < ats.length) (l : isL ps (tabAt ats i) = true) : DGet H d (.str (tabAt ats i)) (some (.int (pN ats ps i))) := by
  have g := x.get hi
  rw [(price_at x.perm x.ok hi).2.1 l] at g
  exact g
/-- the place of a table in a list of tables -/
theorem tab_index {ats : List Atm} (nd : (ats.map (·.1)).Nodup) {L : List Nat} (asc : L.Pairwise (· < ·)) (lt : ∀ k ∈ L, k < ats.length) {i : Nat} (hi : i ∈ L) :
    ∃ a, L[a]? = some i ∧ (tabsV ats L)[a]? = some (.str (tabAt ats i)) ∧ ∀ (m : Nat) (z : V), m < a → (tabsV ats L)[m]? = some z → eqV z (.str (tabAt ats i)) = false := by
  obtain ⟨a, ha, e⟩ := List.getElem_of_mem hi
  have ea : L[a]? = some i := by rw [List.getElem?_eq_getElem ha, e]
  refine ⟨a, ea, by unfold tabsV; rw [List.getElem?_map, ea]; rfl, fun m z hm hz => ?_⟩
  unfold tabsV at hz
  rw [List.getElem?_map] at hz
  obtain ⟨k, hk, rfl⟩ := Option.map_eq_some_iff.mp hz
  have ne : tabAt ats k ≠ tabAt ats i := fun e2 => by
    have := tab_inj nd (lt k (List.mem_of_getElem? hk)) (lt i hi) e2
    rw [this] at hk
    obtain ⟨hm2, e3⟩ := List.getElem?_eq_some_iff.mp hk
    have := List.pairwise_iff_getElem.mp asc m a hm2 ha hm
    omega
  show (tabAt ats k == tabAt ats i) = false
  exact beq_eq_false_iff_ne.mpr ne
theorem index_lt {L : List Nat} (asc : L.Pairwise (· < ·)) {a b i j : Nat} (ha : L[a]? = some i) (hb : L[b]? = some j) : (a : Int) < (b : Int) ↔ i < j := by
  obtain ⟨la, ea⟩ := List.getElem?_eq_some_iff.mp ha
  obtain ⟨lb, eb⟩ := List.getElem?_eq_some_iff.mp hb
  have p := List.pairwise_iff_getElem.mp asc
  constructor
  · intro h
    have := p a b la lb (by omega)
    omega
  · intro h
    rcases Nat.lt_trichotomy a b with c | c | c
    · omega
    · subst c
      omega
    · have := p b a lb la c
      omega
theorem set_even {ats : List Atm} {i j : Nat} {r : Bool} (h : r = true ↔ ∀ k, k ∈ gathered ((namesAt ats i).map Sum.inr) ↔ k ∈ gathered ((namesAt ats j).map Sum.inr)) : r = (subB ats i j && subB ats j i) := by
  have e : (∀ k, k ∈ gathered ((namesAt ats i).map (Sum.inr (α := Int))) ↔ k ∈ gathered ((namesAt ats j).map Sum.inr)) ↔ (subB ats i j && subB ats j i) = true := by
    rw [Bool.and_eq_true, subB_iff, subB_iff]
    constructor
    · intro z
      refine ⟨fun x hx => ?_, fun x hx => ?_⟩
      · obtain ⟨y, hy, ey⟩ := List.mem_map.mp (mem_gathered.mp ((z (.inr x)).mp (mem_gathered.mpr (List.mem_map.mpr ⟨x, hx, rfl⟩))))
        rw [← Sum.inr.inj ey]; exact hy
      · obtain ⟨y, hy, ey⟩ := List.mem_map.mp (mem_gathered.mp ((z (.inr x)).mpr (mem_gathered.mpr (List.mem_map.mpr ⟨x, hx, rfl⟩))))
        rw [← Sum.inr.inj ey]; exact hy
    · rintro ⟨z1, z2⟩ k
      rw [mem_gathered, mem_gathered, List.mem_map, List.mem_map]
      exact ⟨fun ⟨x, hx, e⟩ => ⟨x, z1 x hx, e⟩, fun ⟨x, hx, e⟩ => ⟨x, z2 x hx, e⟩⟩
  rw [e] at h
  cases r with
  | true => exact (h.mp rfl).symm
  | false =>
    cases c : subB ats i j && subB ats j i with
    | false => rfl
    | true => exact absurd (h.mpr c) Bool.false_ne_true
abbrev NRu : List Str := ["names", "worths", "tables", "one", "other", "dearer", "worth", "more", "name", "same"]
theorem scRules : FnScope NRu ["names", "worths", "tables", "one", "other"] (defScope sRules) := ⟨rfl, rfl, rfl, by decide +kernel, rfl, by decide +kernel, by decide +kernel⟩
section
variable {P : Program} {w : World} {K : PySem.W.Frag} {mg : Str → Option Value} {base : Heap}
def spRules (K : PySem.W.Frag) : Sp := fun vs H Q _ => ∃ (d pr tl : Addr) (ats : List Atm) (ps : List (Str × V)) (L : List Nat) (i j : Nat), vs = [.ref d, .ref pr, .ref tl, .str (tabAt ats i), .str (tabAt ats j)] ∧ OwnAt K H d ats ∧ WorAt H pr ats ps ∧ GoodQ ats ∧
  SqL K H tl (tabsV ats L) ∧ L.Pairwise (· < ·) ∧ (∀ k ∈ L, k ∈ looseN ats ps) ∧ i ∈ L ∧ j ∈ L ∧ ∀ H', Same H H' → Q (.bl (ruB ats ps i j)) H'
theorem ok_rules {f : Addr} {fd : FuncData} (F : Fun K "_rules" "_rules" sRules f fd) (B : Blt mg) (mAll : mg "all" = none) (mAny : mg "any" = none) (mZip : mg "zip" = none) : FnOk P w K mg base CX0 1 f fd ["names", "worths", "tables", "one", "other"] (spRules K) := by
  refine F.ok scRules (fun vs H Q E h => ?_) (fun cdv A outer s H vs Q E hr h => ?_)
  · obtain ⟨d, pr, tl, ats, ps, L, i, j, rfl, _⟩ := h
    rfl
  · obtain ⟨d, pr, tl, ats, ps, L, i, j, rfl, own, hp, good, hL, asc, loose, hiL, hjL, fin⟩ := h
    have nd := scRules.nd
    have hu := hu_of hr
    have dist := good.dist
    have few := good.few6
    have hu0 : (cxOf CX0 P w K mg base NRu "_rules" (defScope sRules) f cdv A outer s H E).nox.A.units < cLine := by
      have := hr.un
      show (A.deeper _).units < cLine
      omega
    obtain ⟨hi, li⟩ := mem_loose (loose i hiL)
    obtain ⟨hj, lj⟩ := mem_loose (loose j hjL)
    have lt : ∀ k ∈ L, k < ats.length := fun k hk => (mem_loose (loose k hk)).1
    obtain ⟨tT, hT, fT⟩ : ∃ t : TS, PSs (cxOf CX0 P w K mg base NRu "_rules" (defScope sRules) f cdv A outer s H E).nox ((defBody sRules).drop 3) t ∧
        ∀ (H3 : Hp) (r b : Bool), Same H H3 → subB ats i j = true → ¬ pN ats ps j < pN ats ps i → r = (decide (pN ats ps i = pN ats ps j) && subB ats j i) →
          t { nx := fun _ H' => Q .non H', rt := Q } [some (.ref d), some (.ref pr), some (.ref tl), some (.str (tabAt ats i)), some (.str (tabAt ats j)), some (.bl b), none, none, none, some (.bl r)] H3 := by
      refine ⟨_, pss_one (ps_ret (pe_or (pe_not (pv 9)) (pe_one (pe_cmpR op_lt (pe_bm PySem.F.plainAttrs_list PySem.F.slot_list_index PySem.F.type_list_index mt_index (pv 2) (pa_cons (pv 3) pa_nil)) (pe_bm PySem.F.plainAttrs_list PySem.F.slot_list_index PySem.F.type_list_index mt_index (pv 2) (pa_cons (pv 4) pa_nil)) (nomark _))))), ?_⟩
      intro H3 r b s3 c2 c1 er
      have eru : ruB ats ps i j = (!r || decide (i < j)) := by
        unfold ruB
        rw [c2, er, decide_eq_true (by omega : pN ats ps i ≤ pN ats ps j)]
        rfl
      have done := fin H3 s3
      rw [eru] at done
      refine ⟨_, rfl, r, rfl, _, rfl, ?_⟩
      cases r with
      | false => exact iteT done
      | true =>
        refine iteF ?_
        obtain ⟨a, ha1, ha2, ha3⟩ := tab_index dist asc lt hiL
        obtain ⟨b, hb1, hb2, hb3⟩ := tab_index dist asc lt hjL
        have sq := s3.seq hL
        have e2 : decide ((a : Int) < (b : Int)) = decide (i < j) := by rw [decide_eq_decide]; exact index_lt asc ha1 hb1
        refine ⟨_, rfl, .inl ⟨rfl, _, sq⟩, _, rfl, tl, _, _, a, _, rfl, rfl, sq, rfl, flat_tabs ats L, ha2, beq_self_eq_true _, ha3, _, rfl, .inl ⟨rfl, _, sq⟩, _, rfl, tl, _, _, b, _, rfl, rfl, sq, rfl, flat_tabs ats L, hb2, beq_self_eq_true _, hb3, _, _, rfl, rfl, ?_⟩
        have done2 : Q (.bl (decide ((a : Int) < (b : Int)))) H3 := by rw [e2]; exact done
        exact done2
    refine ⟨_, pss_cons (ps_set (i := 5) nd rfl (.inl rfl) (pe_callB (id := "any") (r := rAny K) (cr_any (by rfl)) (by rfl) mAny (by decide +kernel) (pa_cons
          (pe_lc (own := [("worth", 6), ("more", 7)]) (g := gTup K 2 (gCons (gName 6) (gCons (gName 7) gNil))) (tt := tYes) (te := tOp (rI0 fun i j => .bl (decide (j < i))) (tVar 6) (tVar 7)) (by rfl) nd (pi_zipT (by rfl) mZip (pa_cons (pe_dget hu (pv 1) (pv 3) (fun _ _ => rfl)) (pa_cons (pe_dget hu (pv 1) (pv 4) (fun _ _ => rfl)) pa_nil))) (blkOk_by (own := [("worth", 6), ("more", 7)]) (N := NRu) (sc := defScope sRules) (by decide +kernel))
            (fun _ _ _ _ _ => pg_tup (by rfl) (pgs_cons (pg_name (i := 6) nd rfl (.inl rfl)) (pgs_cons (pg_name (i := 7) nd rfl (.inl rfl)) pgs_nil))) (fun _ _ _ _ _ => pts_nil) (fun _ _ _ _ _ => pe_cmpR op_gt (pv 6) (pv 7) (nomark _))) pa_nil)))
      (pss_cons (ps_if (PW.pt (pw_or (pt_val (pv 5))
        (pw_or1 (pt_not (pt_val (pe_callB (id := "all") (r := rAll K) (cr_all (by rfl)) (by rfl) mAll (by decide +kernel) (pa_cons
          (pe_lc (own := [("name", 8)]) (g := gName 8) (tt := tYes) (te := tOp (rIn K false) (tVar 8) (tDGet (tVar 0) (tVar 4))) (by rfl) nd (pi_list (pe_dget hu (pv 0) (pv 3) (fun _ _ => rfl))) (blkOk_by (own := [("name", 8)]) (N := NRu) (sc := defScope sRules) (by decide +kernel))
            (fun _ _ _ _ _ => pg_name (i := 8) nd rfl (Or.inl rfl)) (fun _ _ _ _ _ => pts_nil) (fun _ _ _ _ _ => pe_cmpR op_in_seq (pv 8) (pe_dget hu (pv 0) (pv 4) (fun _ _ => rfl)) (by rfl))) pa_nil)))))))
        (pss_one (ps_ret pe_bl)) pss_nil)
      (pss_cons (ps_set (i := 9) nd rfl (.inl rfl) (pe_and (pe_cmpR (op_eqD hr.units) (pe_dget hu (pv 1) (pv 3) (fun _ _ => rfl)) (pe_dget hu (pv 1) (pv 4) (fun _ _ => rfl)) (nomark _))
        (pe_one (pe_cmpR (op_eqM hu0) (pe_callTy (T := "set") (r := rSetOfK K P w) (cr_setOfK (by rfl)) (by rfl) B.set (by decide +kernel) (pa_cons (pe_dget hu (pv 0) (pv 3) (fun _ _ => rfl)) pa_nil)) (pe_callTy (T := "set") (r := rSetOfK K P w) (cr_setOfK (by rfl)) (by rfl) B.set (by decide +kernel) (pa_cons (pe_dget hu (pv 0) (pv 4) (fun _ _ => rfl)) pa_nil)) (nomark _)))))
      hT)), ?_⟩
    obtain ⟨ta, ga, hta⟩ := hp.get hi li
    obtain ⟨tb, gb, htb⟩ := hp.get hj lj
    refine ⟨_, rfl, _, rfl, pr, _, rfl, ga, _, rfl, _, rfl, pr, _, rfl, gb, ta, tb, _, _, rfl, SqT.of hta, SqT.of htb, fun D0 nD0 => ?_⟩
    refine walk_zipT (xs := [.int (pN ats ps i)]) (ys := [.int (pN ats ps j)]) (fun k H7 => Same H H7 ∧ H7 D0 = some (.lst ((([decide (pN ats ps j < pN ats ps i)] : List Bool).take k).map V.bl))) ⟨same_new nD0, upd_same⟩ (fun k H7 h => ⟨SqT.of (h.1 _ _ hta), SqT.of (h.1 _ _ htb)⟩) ?_ ?_
    · rintro k x y H7 T hx hy ⟨sm, hD⟩ nT
      obtain ⟨rfl, rfl⟩ : k = 0 ∧ x = .int (pN ats ps i) := by
        match k, hx with
        | 0, hx => exact ⟨rfl, (Option.some.inj hx).symm⟩
        | k + 1, hx => cases hx
      have ey : y = .int (pN ats ps j) := (Option.some.inj hy).symm
      subst ey
      have TD : T ≠ D0 := (ne_of_none hD nT).symm
      refine ⟨T, [.int (pN ats ps i), .int (pN ats ps j)], rfl, SqT.of upd_same, rfl, .int (pN ats ps i), [.int (pN ats ps j)], rfl, .int (pN ats ps j), [], rfl, rfl, rfl, ?_⟩
      refine tyes ?_
      refine ⟨_, rfl, _, rfl, _, _, rfl, rfl, _, by rw [upd_ne TD.symm]; exact hD, small1000 (by show 0 ≤ 1000; decide), fun b u e => ?_, ?_⟩
      · rw [upd_ne (ne_of_none e nD0), upd_ne (ne_of_none (sm _ _ e) nT)]
        exact sm _ _ e
      · rw [upd_same]
        rfl
    rintro H1 ⟨s1, hD0⟩
    refine ⟨D0, [decide (pN ats ps j < pN ats ps i)], rfl, SqL.of hD0, ?_⟩
    have e0 : ([decide (pN ats ps j < pN ats ps i)] : List Bool).any id = decide (pN ats ps j < pN ats ps i) := by simp
    rw [e0]
    refine ⟨_, rfl, _, rfl, ?_⟩
    have own1 := own.same s1
    by_cases c1 : pN ats ps j < pN ats ps i
    · rw [decide_eq_true c1]
      refine iteT (iteT ?_)
      have e : ruB ats ps i j = false := by
        cases e : ruB ats ps i j with
        | false => rfl
        | true =>
          have := (ruB_iff.mp e).1
          omega
      have := fin H1 s1
      rw [e] at this
      exact this
    · rw [decide_eq_false c1]
      refine iteF ?_
      obtain ⟨ai, dgi, sqi⟩ := own1.get dist hi
      refine ⟨_, rfl, _, rfl, d, _, rfl, dgi, ai, rfl, ⟨_, sqi⟩, fun D nD => ?_⟩
      refine walk_list (xs := (namesAt ats i).map V.str) (fun q H7 => Same H1 H7 ∧ H7 D = some (.lst ((((namesAt ats i).take q).map fun x => decide (x ∈ namesAt ats j)).map V.bl))) ⟨same_new nD, upd_same⟩ (fun i H7 _ h => h.1.seq sqi) ?_ ?_
      · rintro q x H7 hx ⟨sm7, hD⟩
        rw [List.getElem?_map] at hx
        obtain ⟨z, hz, rfl⟩ := Option.map_eq_some_iff.mp hx
        have nf := names_few few i
        obtain ⟨aj, dgj, sqj⟩ := (own1.same sm7).get dist hj
        refine ⟨rfl, ?_⟩
        refine tyes ?_
        refine ⟨_, rfl, _, rfl, _, rfl, d, _, rfl, dgj, aj, _, rfl, .inl sqj, rfl, flat_strs' _, _, hD, ?_, fun b u e => ?_, ?_⟩
        · rw [List.length_map, List.length_map, List.length_take]
          exact small1000 (by omega)
        · rw [upd_ne (ne_of_none e nD)]
          exact sm7 _ _ e
        · rw [upd_same, List.take_add_one, hz, if_neg Bool.false_ne_true, inV_str]
          simp
      rintro H2 ⟨s12, hD⟩
      rw [List.length_map, List.take_length] at hD
      refine ⟨D, _, rfl, SqL.of hD, _, rfl, ?_⟩
      have e : ((namesAt ats i).map fun x => decide (x ∈ namesAt ats j)).all id = subB ats i j := by
        unfold subB
        rw [List.all_map]
        rfl
      rw [e]
      have s2 := s1.trans s12
      have own2 := own.same s2
      cases c2 : subB ats i j with
      | false =>
        refine iteT ?_
        have e : ruB ats ps i j = false := by unfold ruB; rw [c2, Bool.and_false, Bool.false_and]
        have := fin H2 s2
        rw [e] at this
        exact this
      | true =>
        refine iteF ?_
        have finish : ∀ (H3 : Hp) (r : Bool), Same H H3 → r = (decide (pN ats ps i = pN ats ps j) && subB ats j i) → tT { nx := fun _ H' => Q .non H', rt := Q } [some (.ref d), some (.ref pr), some (.ref tl), some (.str (tabAt ats i)), some (.str (tabAt ats j)), some (.bl false), none, none, none, some (.bl r)] H3 := fun H3 r s3 er => fT H3 r false s3 c2 c1 er
        obtain ⟨ta2, ga2, hta2⟩ := (hp.same s2).get hi li
        obtain ⟨tb2, gb2, htb2⟩ := (hp.same s2).get hj lj
        refine ⟨_, rfl, _, rfl, pr, _, rfl, ga2, _, rfl, _, rfl, pr, _, rfl, gb2, .tuple [.int (pN ats ps i)], .tuple [.int (pN ats ps j)], .tup (SqT.of hta2) (.cons (.int _) .nil), .tup (SqT.of htb2) (.cons (.int _) .nil), rfl, rfl, _, rfl, ?_⟩
        rw [eqv_int1]
        by_cases c3 : pN ats ps i = pN ats ps j
        · rw [decide_eq_true c3]
          refine iteT ?_
          have nfi := names_few few i
          have nfj := names_few few j
          obtain ⟨ai2, dgi2, sqi2⟩ := own2.get dist hi
          refine ⟨_, rfl, _, rfl, d, _, rfl, dgi2, ai2, (namesAt ats i).map Sum.inr, rfl, by rw [txt_kV]; exact sqi2, by rw [List.length_map]; unfold scanBound; omega, fun r1 n1 => ?_⟩
          have s3 := s2.trans (same_new (o := SetMO P w r1 (gathered ((namesAt ats i).map Sum.inr))) n1)
          have h3 : upd H2 r1 (SetMO P w r1 (gathered ((namesAt ats i).map Sum.inr))) r1 = some (SetMO P w r1 (gathered ((namesAt ats i).map Sum.inr))) := upd_same
          generalize upd H2 r1 (SetMO P w r1 (gathered ((namesAt ats i).map Sum.inr))) = H3 at s3 h3 ⊢
          obtain ⟨aj3, dgj3, sqj3⟩ := (own.same s3).get dist hj
          refine ⟨_, rfl, _, rfl, d, _, rfl, dgj3, aj3, (namesAt ats j).map Sum.inr, rfl, by rw [txt_kV]; exact sqj3, by rw [List.length_map]; unfold scanBound; omega, fun r2 n2 => ?_⟩
          have s4 := s3.trans (same_new (o := SetMO P w r2 (gathered ((namesAt ats j).map Sum.inr))) n2)
          refine ⟨r1, r2, _, _, rfl, rfl, at_new h3 n2, upd_same, fun r hr => finish _ r s4 ?_⟩
          rw [set_even hr, c2, decide_eq_true c3]
        · rw [decide_eq_false c3]
          refine iteF (finish _ false s2 ?_)
          rw [decide_eq_false c3]
          rfl
end
end Cut
set_option Elab.async false
set_option linter.all false
set_option maxRecDepth 100000
set_option maxHeartbeats 8000000
namespace Cut
open PySem PySem.Spec PyProof.Rows L2
/-! ### whether a table rules another one, as the law looks at it -/
theorem tabs_range {ats : List Atm} {i : Nat} (hi : i < ats.length) (nd : (ats.map (·.1)).Nodup) : (tabsV ats (List.range ats.length))[i]? = some (.str (tabAt ats i)) ∧ ∀ (m : Nat) (z : V), m < i → (tabsV ats (List.range ats.length))[m]? = some z → eqV z (.str (tabAt ats i)) = false := by
  have g : ∀ m, m < ats.length → (tabsV ats (List.range ats.length))[m]? = some (.str (tabAt ats m)) := fun m hm => by
    unfold tabsV
    rw [List.getElem?_map, List.getElem?_range hm]
    rfl
  refine ⟨g i hi, fun m z hm hz => ?_⟩
  rw [g m (by omega)] at hz
  cases hz
  show (tabAt ats m == tabAt ats i) = false
  exact beq_eq_false_iff_ne.mpr fun e => by
    have := tab_inj nd (by omega) hi e
    omega
theorem piece_filter {ats : List Atm} {i j : Nat} (hi : i < ats.length) : ((compsN ats).filter fun g => decide (i ∈ g) && decide (j ∈ g)).isEmpty = !cnB ats i j := by
  cases e : (compsN ats).filter fun g => decide (i ∈ g) && decide (j ∈ g) with
  | nil =>
    cases c : cnB ats i j with
    | false => rfl
    | true =>
      obtain ⟨k, hk, hl, ck⟩ := least_of i i (Nat.le_refl _) hi
      have m : compN ats k ∈ (compsN ats).filter fun g => decide (i ∈ g) && decide (j ∈ g) := by
        refine List.mem_filter.mpr ⟨List.mem_map.mpr ⟨k, ?_, rfl⟩, ?_⟩
        · exact mem_leastN.mpr ⟨by omega, lsB_iff.mp hl⟩
        · rw [Bool.and_eq_true]
          exact ⟨decide_eq_true (mem_compN.mpr ck), decide_eq_true (mem_compN.mpr (ck.trans (cnB_iff.mp c)))⟩
      rw [e] at m
      exact absurd m (by simp)
  | cons g r =>
    have m : g ∈ (compsN ats).filter fun g => decide (i ∈ g) && decide (j ∈ g) := by rw [e]; exact List.mem_cons_self
    obtain ⟨m1, m2⟩ := List.mem_filter.mp m
    rw [Bool.and_eq_true] at m2
    obtain ⟨k, hk, rfl⟩ := List.mem_map.mp m1
    have c1 := mem_compN.mp (of_decide_eq_true m2.1)
    have c2 := mem_compN.mp (of_decide_eq_true m2.2)
    rw [cnB_iff.mpr (c1.symm.trans c2)]
    rfl
theorem sub_filter {ats : List Atm} {i j : Nat} : ((namesAt ats i).filter fun x => !decide (x ∈ namesAt ats j)).isEmpty = subB ats i j := by
  unfold subB
  induction namesAt ats i with
  | nil => rfl
  | cons x r ih =>
    rw [List.all_cons]
    by_cases h : x ∈ namesAt ats j
    · rw [List.filter_cons_of_neg (by simp [h]), ih, decide_eq_true h, Bool.true_and]
    · rw [List.filter_cons_of_pos (by simp [h]), decide_eq_false h, Bool.false_and]
      rfl
theorem comps_lt {ats : List Atm} {g : List Nat} (h : g ∈ compsN ats) : ∀ k ∈ g, k < ats.length := found_lt (i := ats.length) h
theorem comps_len {ats : List Atm} {g : List Nat} (h : g ∈ compsN ats) : g.length ≤ ats.length := found_len (i := ats.length) h
theorem comps_many (ats : List Atm) : (compsN ats).length ≤ ats.length := found_many ats ats.length
abbrev NRl : List Str := ["question", "prices", "one", "other", "own", "order", "atom", "piece", "name", "is_even"]
theorem scRulesL : FnScope NRl ["question", "prices", "one", "other"] (defScope sRulesL) := ⟨rfl, rfl, rfl, by decide +kernel, rfl, by decide +kernel, by decide +kernel⟩
section
variable {P : Program} {w : World} {K : PySem.W.Frag} {mg : Str → Option Value} {base : Heap}
def spRulesL (K : PySem.W.Frag) : Sp := fun vs H Q _ => ∃ (q pr : Addr) (head : List Str) (ats : List Atm) (ps : List (Str × V)) (i j : Nat), vs = [.ref q, .ref pr, .str (tabAt ats i), .str (tabAt ats j)] ∧ QAt K H q head ats ∧ PricesAt H pr ats ps ∧ GoodQ ats ∧
  i < ats.length ∧ j < ats.length ∧ isL ps (tabAt ats i) = true ∧ isL ps (tabAt ats j) = true ∧ ∀ H', Same H H' → Q (.bl (rulB ats ps i j)) H'
theorem ok_rulesL {f fO fA : Addr} {fd fdO fdA : FuncData} (F : Fun K "_law_rules" "_law_rules" sRulesL f fd) (B : Blt mg)
    (FO : Fun K "_law_own_names" "_law_own_names" sOwn fO fdO) (bO : Binds K fdO ["question"] []) (gO : mg "_law_own_names" = some (.ref fO)) (GO : FnOk P w K mg base CX0 1 fO fdO ["question"] (spOwn K))
    (FA : Fun K "_law_all_pieces" "_law_all_pieces" sAllPieces fA fdA) (bA : Binds K fdA ["question"] []) (gA : mg "_law_all_pieces" = some (.ref fA)) (GA : FnOk P w K mg base CX0 2 fA fdA ["question"] (spAll K)) :
    FnOk P w K mg base CX0 3 f fd ["question", "prices", "one", "other"] (spRulesL K) := by
  refine F.ok scRulesL (fun vs H Q E h => ?_) (fun cdv A outer s H vs Q E hr h => ?_)
  · obtain ⟨q, pr, head, ats, ps, i, j, rfl, _⟩ := h
    rfl
  · obtain ⟨q, pr, head, ats, ps, i, j, rfl, hq, hp, good, hi, hj, li, lj, fin⟩ := h
    have nd := scRulesL.nd
    have hu := hu_of hr
    have hr1 : Room 1 _ := hr.mono (by decide)
    have dist := good.dist
    have few := good.few6
    have fm := good.many
    have nfi := names_few few i
    have nfj := names_few few j
    have ln : ∀ n : Nat, n ≤ 1000 → n ≤ sizeLine := fun n h => Nat.le_of_lt (small1000 h)
    have hu0 : (cxOf CX0 P w K mg base NRl "_law_rules" (defScope sRulesL) f cdv A outer s H E).nox.A.units < cLine := by
      have := hr.un
      show (A.deeper _).units < cLine
      omega
    obtain ⟨hd, sa, us, hq1, hq2, hq3, hq4⟩ := id hq
    have len4 := paired_len hq4
    -- the last row
    obtain ⟨tT, hT, fT⟩ : ∃ t : TS, PSs (cxOf CX0 P w K mg base NRl "_law_rules" (defScope sRulesL) f cdv A outer s H E).nox ((defBody sRulesL).drop 5) t ∧
        ∀ (H3 : Hp) (d o : Addr) (r : Bool), Same H H3 → SqL K H3 o (tabsV ats (List.range ats.length)) → subB ats i j = true → ¬ pN ats ps j < pN ats ps i → cnB ats i j = true → r = (decide (pN ats ps i = pN ats ps j) && subB ats j i) →
          t { nx := fun _ H' => Q .non H', rt := Q } [some (.ref q), some (.ref pr), some (.str (tabAt ats i)), some (.str (tabAt ats j)), some (.ref d), some (.ref o), none, none, none, some (.bl r)] H3 := by
      refine ⟨_, pss_one (ps_ret (pe_or (pe_not (pv 9)) (pe_one (pe_cmpR op_lt (pe_bm PySem.F.plainAttrs_list PySem.F.slot_list_index PySem.F.type_list_index mt_index (pv 5) (pa_cons (pv 2) pa_nil)) (pe_bm PySem.F.plainAttrs_list PySem.F.slot_list_index PySem.F.type_list_index mt_index (pv 5) (pa_cons (pv 3) pa_nil)) (nomark _))))), ?_⟩
      intro H3 d o r s3 sq c2 c1 cc er
      have eru : rulB ats ps i j = (!r || decide (i < j)) := by
        unfold rulB ruB
        rw [cc, c2, er, decide_eq_true (by omega : pN ats ps i ≤ pN ats ps j)]
        rfl
      have done := fin H3 s3
      rw [eru] at done
      refine ⟨_, rfl, r, rfl, _, rfl, ?_⟩
      cases r with
      | false => exact iteT done
      | true =>
        refine iteF ?_
        obtain ⟨ha2, ha3⟩ := tabs_range hi dist
        obtain ⟨hb2, hb3⟩ := tabs_range hj dist
        have e2 : decide ((i : Int) < (j : Int)) = decide (i < j) := by rw [decide_eq_decide]; omega
        refine ⟨_, rfl, .inl ⟨rfl, _, sq⟩, _, rfl, o, _, _, i, _, rfl, rfl, sq, rfl, flat_tabs ats _, ha2, beq_self_eq_true _, ha3, _, rfl, .inl ⟨rfl, _, sq⟩, _, rfl, o, _, _, j, _, rfl, rfl, sq, rfl, flat_tabs ats _, hb2, beq_self_eq_true _, hb3, _, _, rfl, rfl, ?_⟩
        have done2 : Q (.bl (decide ((i : Int) < (j : Int)))) H3 := by rw [e2]; exact done
        exact done2
    -- from the third test on
    obtain ⟨tU, hU, fU⟩ : ∃ t : TS, PSs (cxOf CX0 P w K mg base NRl "_law_rules" (defScope sRulesL) f cdv A outer s H E).nox ((defBody sRulesL).drop 3) t ∧
        ∀ (H3 : Hp) (d o : Addr), Same H H3 → OwnAt K H3 d ats → SqL K H3 o (tabsV ats (List.range ats.length)) → ¬ pN ats ps j < pN ats ps i → cnB ats i j = true →
          t { nx := fun _ H' => Q .non H', rt := Q } [some (.ref q), some (.ref pr), some (.str (tabAt ats i)), some (.str (tabAt ats j)), some (.ref d), some (.ref o), none, none, none, none] H3 := by
      refine ⟨_, pss_cons (ps_if (pt_cmpR (op_neD hr.units) (pe_lc (own := [("name", 8)]) (g := gName 8) (tt := tTest (tOp (rIn K true) (tVar 8) (tDGet (tVar 4) (tVar 3)))) (te := tVar 8) (by rfl) nd (pi_list (pe_dget hu (pv 4) (pv 2) (fun _ _ => rfl))) (blkOk_by (own := [("name", 8)]) (N := NRl) (sc := defScope sRulesL) (by decide +kernel))
            (fun _ _ _ _ _ => pg_name (i := 8) nd rfl (Or.inl rfl)) (fun _ _ _ _ _ => pts_one (pt_cmpR op_notIn_seq (pv 8) (pe_dget hu (pv 4) (pv 3) (fun _ _ => rfl)) (by rfl))) (fun _ _ _ _ _ => pv 8)) (pe_lst pa_nil) (nomark _))
          (pss_one (ps_ret pe_bl)) pss_nil)
        (pss_cons (ps_set (i := 9) nd rfl (.inl rfl) (pe_and (pe_cmpR (op_eqM hu0) (pe_callTy (T := "set") (r := rSetOfK K P w) (cr_setOfK (by rfl)) (by rfl) B.set (by decide +kernel) (pa_cons (pe_dget hu (pv 4) (pv 2) (fun _ _ => rfl)) pa_nil)) (pe_callTy (T := "set") (r := rSetOfK K P w) (cr_setOfK (by rfl)) (by rfl) B.set (by decide +kernel) (pa_cons (pe_dget hu (pv 4) (pv 3) (fun _ _ => rfl)) pa_nil)) (nomark _))
          (pe_one (pe_cmpR op_eq (pe_dget hu (pv 1) (pv 2) (fun _ _ => rfl)) (pe_dget hu (pv 1) (pv 3) (fun _ _ => rfl)) (nomark _))))) hT), ?_⟩
      intro H1 d o s1 own ho c1 cc
      obtain ⟨ai, dgi, sqi⟩ := own.get dist hi
      refine ⟨_, rfl, _, rfl, d, _, rfl, dgi, ai, rfl, ⟨_, sqi⟩, fun D nD => ?_⟩
      refine walk_list (xs := (namesAt ats i).map V.str) (fun p H7 => Same H1 H7 ∧ H7 D = some (.lst ((((namesAt ats i).take p).filter fun x => !decide (x ∈ namesAt ats j)).map V.str))) ⟨same_new nD, upd_same⟩ (fun i H7 _ h => h.1.seq sqi) ?_ ?_
      · rintro p x H7 hx ⟨sm7, hD⟩
        rw [List.getElem?_map] at hx
        obtain ⟨z, hz, rfl⟩ := Option.map_eq_some_iff.mp hx
        have ft := filter_take (fun x => !decide (x ∈ namesAt ats j)) (namesAt ats i) p z hz
        obtain ⟨aj, dgj, sqj⟩ := (own.same sm7).get dist hj
        refine ⟨rfl, ?_⟩
        refine ⟨_, rfl, _, rfl, _, rfl, d, _, rfl, dgj, aj, _, rfl, .inl sqj, rfl, flat_strs' _, _, rfl, ?_⟩
        rw [if_pos rfl, inV_str]
        by_cases hz2 : z ∈ namesAt ats j
        · rw [if_neg (by rw [decide_eq_true hz2]; exact Bool.false_ne_true), List.append_nil] at ft
          rw [decide_eq_true hz2, Bool.not_true]
          refine iteF ⟨sm7, ?_⟩
          rw [ft]
          exact hD
        · rw [if_pos (by rw [decide_eq_false hz2]; rfl)] at ft
          rw [decide_eq_false hz2, Bool.not_false]
          refine iteT ⟨_, rfl, _, hD, ?_, fun b u e => ?_, ?_⟩
          · rw [List.length_map]
            refine small1000 (Nat.le_trans (List.length_filter_le _ _) ?_)
            rw [List.length_take]
            omega
          · rw [upd_ne (ne_of_none e nD)]
            exact sm7 _ _ e
          · rw [upd_same, ft, List.map_append]
            rfl
      rintro H2 ⟨s2, hD⟩
      rw [List.length_map, List.take_length] at hD
      refine ⟨Nat.zero_le _, fun e ne => ?_⟩
      have s3 := s2.trans (same_new (o := .lst []) ne)
      have hD3 := at_new (u := .lst []) hD ne
      have he3 : upd H2 e (.lst []) e = some (.lst []) := upd_same
      generalize upd H2 e (.lst []) = H3 at s3 hD3 he3 ⊢
      have sub := sub_filter (ats := ats) (i := i) (j := j)
      have tsok : ∀ x ∈ (namesAt ats i).filter fun x => !decide (x ∈ namesAt ats j), PyData.strOk x = true := fun x hx => good.txok.at i x (List.mem_filter.mp hx).1
      generalize ((namesAt ats i).filter fun x => !decide (x ∈ namesAt ats j)) = ts at hD3 sub tsok
      have g := strs_layO ts tsok
      refine ⟨.list (ts.map .str), .list [], .lst (SqL.of hD3) (strs_dp ts), .lst (SqL.of he3) .nil, shaped_list g.1 (Nat.le_of_eq g.2) (by decide), by decide, _, rfl, ?_⟩
      rw [eqv_nil]
      have emp : (ts.map PyData.str).isEmpty = subB ats i j := by rw [← sub]; cases ts <;> rfl
      rw [emp]
      have sH := s1.trans s3
      cases c2 : subB ats i j with
      | false =>
        rw [Bool.not_false]
        refine iteT ?_
        have e : rulB ats ps i j = false := by unfold rulB ruB; rw [c2, Bool.and_false, Bool.false_and, Bool.and_false]
        have := fin H3 sH
        rw [e] at this
        exact this
      | true =>
        rw [Bool.not_true]
        refine iteF ?_
        have own3 := own.same s3
        have hp3 := hp.same sH
        obtain ⟨ai2, dgi2, sqi2⟩ := own3.get dist hi
        refine ⟨_, rfl, _, rfl, d, _, rfl, dgi2, ai2, (namesAt ats i).map Sum.inr, rfl, by rw [txt_kV]; exact sqi2, by rw [List.length_map]; unfold scanBound; omega, fun r1 n1 => ?_⟩
        have s4 := s3.trans (same_new (o := SetMO P w r1 (gathered ((namesAt ats i).map Sum.inr))) n1)
        have h4 : upd H3 r1 (SetMO P w r1 (gathered ((namesAt ats i).map Sum.inr))) r1 = some (SetMO P w r1 (gathered ((namesAt ats i).map Sum.inr))) := upd_same
        generalize upd H3 r1 (SetMO P w r1 (gathered ((namesAt ats i).map Sum.inr))) = H4 at s4 h4 ⊢
        obtain ⟨aj3, dgj3, sqj3⟩ := (own.same s4).get dist hj
        refine ⟨_, rfl, _, rfl, d, _, rfl, dgj3, aj3, (namesAt ats j).map Sum.inr, rfl, by rw [txt_kV]; exact sqj3, by rw [List.length_map]; unfold scanBound; omega, fun r2 n2 => ?_⟩
        have s5 := s4.trans (same_new (o := SetMO P w r2 (gathered ((namesAt ats j).map Sum.inr))) n2)
        refine ⟨r1, r2, _, _, rfl, rfl, at_new h4 n2, upd_same, fun r hr => ?_⟩
        have er := set_even hr
        rw [c2, Bool.true_and] at er
        have sH5 := s1.trans s5
        have hp5 := hp.same sH5
        generalize upd H4 r2 (SetMO P w r2 (gathered ((namesAt ats j).map Sum.inr))) = H5 at s5 sH5 hp5 ⊢
        refine ⟨_, rfl, ?_⟩
        cases r with
        | false => exact iteF (fT H5 d o false sH5 (s5.seq ho) c2 c1 cc (by rw [← er, Bool.and_false]))
        | true =>
          refine iteT ?_
          have e : decide (V.int (pN ats ps i) = V.int (pN ats ps j)) = decide (pN ats ps i = pN ats ps j) := by
            rw [decide_eq_decide]
            exact ⟨fun z => V.int.inj z, fun z => by rw [z]⟩
          have z := fT H5 d o (decide (pN ats ps i = pN ats ps j)) sH5 (s5.seq ho) c2 c1 cc (by rw [← er, Bool.and_true])
          rw [← e] at z
          exact ⟨_, rfl, _, rfl, pr, _, rfl, hp5.int hi li, _, rfl, _, rfl, pr, _, rfl, hp5.int hj lj, rfl, z⟩
    have nope : rulB ats ps i j = false → ∀ H', Same H H' → Q (.bl false) H' := fun e H' s => by
      have := fin H' s
      rw [e] at this
      exact this
    refine ⟨_, pss_cons (ps_asg (pe_tup (pa_cons (pe_call GO hr1 (by rfl) gO FO.kp bO .nil pass0 (pa_cons (pv 0) pa_nil)) (pa_cons (pe_lc (own := [("atom", 6)]) (g := gName 6) (tt := tYes) (te := tOp (rIxT K) (tVar 6) (tC (.int 0))) (by rfl) nd (pi_tup (pe_ix ix_tup (pv 0) pe_int (fun _ _ => rfl))) (blkOk_by (own := [("atom", 6)]) (N := NRl) (sc := defScope sRulesL) (by decide +kernel))
          (fun _ _ _ _ _ => pg_name (i := 6) nd rfl (Or.inl rfl)) (fun _ _ _ _ _ => pts_nil) (fun _ _ _ _ _ => pe_ix ix_tup (pv 6) pe_int (fun _ _ => rfl))) pa_nil))) (pg_tup (by rfl) (pgs_cons (pg_name (i := 4) nd rfl (.inr rfl)) (pgs_cons (pg_name (i := 5) nd rfl (.inl rfl)) pgs_nil))))
      (pss_cons (ps_if (PW.pt (pw_or (pt_cmpR op_eq (pv 2) (pv 3) (nomark _)) (pw_or (pt_cmp (pc_isN (pe_dget hu (pv 1) (pv 2) (fun _ _ => rfl)))) (pw_or (pt_cmp (pc_isN (pe_dget hu (pv 1) (pv 3) (fun _ _ => rfl)))) (pw_or1 (pt_cmpR op_gt (pe_dget hu (pv 1) (pv 2) (fun _ _ => rfl)) (pe_dget hu (pv 1) (pv 3) (fun _ _ => rfl)) (nomark _))))))) (pss_one (ps_ret pe_bl)) pss_nil)
      (pss_cons (ps_if (pt_cmpR (op_eqD hr.units) (pe_lc (own := [("piece", 7)]) (g := gName 7) (tt := tAnd (tTest (tOp (rIn K false) (tVar 2) (tVar 7))) (tTest (tOp (rIn K false) (tVar 3) (tVar 7)))) (te := tVar 7) (by rfl) nd (pi_tup (pe_call GA hr (by rfl) gA FA.kp bA .nil pass0 (pa_cons (pv 0) pa_nil))) (blkOk_by (own := [("piece", 7)]) (N := NRl) (sc := defScope sRulesL) (by decide +kernel))
          (fun _ _ _ _ _ => pg_name (i := 7) nd rfl (Or.inl rfl)) (fun _ _ _ _ _ => pts_one (PW.pt (pw_and (pt_cmpR op_in_seq (pv 2) (pv 7) (by rfl)) (pw_and1 (pt_cmpR op_in_seq (pv 3) (pv 7) (by rfl)))))) (fun _ _ _ _ _ => pv 7)) (pe_lst pa_nil) (nomark _)) (pss_one (ps_ret pe_bl)) pss_nil)
      hU)), ?_⟩
    refine ⟨_, rfl, q, head, ats, rfl, hq, few, dist, fun H1 d s1 n1 own => ?_⟩
    refine ⟨_, rfl, q, _, 1, .ref sa, rfl, rfl, seqT s1 hq1, rfl, sa, rfl, ⟨_, seqT s1 hq3⟩, fun D nD => ?_⟩
    refine walk_tup (xs := us) (fun k H7 => Same H1 H7 ∧ H7 D = some (.lst (tabsV ats ((List.range ats.length).take k)))) ⟨same_new nD, upd_same⟩ (fun k H7 _ h => seqT (s1.trans h.1) hq3) ?_ ?_
    · rintro k x H7 hx ⟨sm, hD⟩
      obtain ⟨t, ht, c, p, rfl, h1, h2⟩ := paired_get hq4 hx
      have hk := (List.getElem?_eq_some_iff.mp ht).1
      refine ⟨rfl, ?_⟩
      refine tyes ?_
      refine ⟨_, rfl, c, _, 0, .str t.1, rfl, rfl, seqT (s1.trans sm) h1, rfl, _, hD, ?_, fun b u e => ?_, ?_⟩
      · unfold tabsV
        rw [List.length_map, List.length_take, List.length_range]
        exact small1000 (by omega)
      · rw [upd_ne (ne_of_none e nD)]
        exact sm _ _ e
      · rw [upd_same, List.take_add_one, List.getElem?_range hk]
        unfold tabsV
        rw [List.map_append]
        show _ = some (HO.lst (_ ++ [V.str (tabAt ats k)]))
        rw [tab_get ht]
    rintro H2 ⟨s2, hD⟩
    rw [len4, List.take_of_length_le (by rw [List.length_range]; exact Nat.le_refl _)] at hD
    refine ⟨ln 2 (by decide), fun z nz => ⟨z, [.ref d, .ref D], rfl, SqT.of upd_same, rfl, .ref d, [.ref D], rfl, .ref D, [], rfl, rfl, ?_⟩⟩
    have s3 := s2.trans (same_new (o := .tup [.ref d, .ref D]) nz)
    have hD3 := at_new (u := .tup [.ref d, .ref D]) hD nz
    have own3 := own.same s3
    have sH3 := s1.trans s3
    generalize upd H2 z (.tup [.ref d, .ref D]) = H3 at s3 hD3 own3 sH3 ⊢
    have hp3 := hp.same sH3
    refine ⟨_, rfl, _, rfl, rfl, _, rfl, ?_⟩
    by_cases c0 : i = j
    · have e : decide (V.str (tabAt ats i) = V.str (tabAt ats j)) = true := decide_eq_true (by rw [c0])
      rw [e]
      refine iteT (iteT (nope ?_ H3 sH3))
      rw [c0]
      exact rulB_irr
    have e : decide (V.str (tabAt ats i) = V.str (tabAt ats j)) = false := decide_eq_false fun z => c0 (tab_inj dist hi hj (V.str.inj z))
    rw [e]
    have nn : ∀ x : Int, decide (V.int x = V.non) = false := fun x => decide_eq_false fun z => nomatch z
    refine iteF ⟨_, rfl, _, rfl, pr, _, rfl, hp3.int hi li, _, rfl, ?_⟩
    rw [nn]
    refine iteF ⟨_, rfl, _, rfl, pr, _, rfl, hp3.int hj lj, _, rfl, ?_⟩
    rw [nn]
    refine iteF ⟨_, rfl, _, rfl, pr, _, rfl, hp3.int hi li, _, rfl, _, rfl, pr, _, rfl, hp3.int hj lj, _, _, rfl, rfl, _, rfl, ?_⟩
    by_cases c1 : pN ats ps j < pN ats ps i
    · rw [decide_eq_true c1]
      refine iteT (nope ?_ H3 sH3)
      cases e : rulB ats ps i j with
      | false => rfl
      | true =>
        unfold rulB at e
        rw [Bool.and_eq_true] at e
        have := (ruB_iff.mp e.2).1
        omega
    rw [decide_eq_false c1]
    refine iteF ?_
    refine ⟨_, rfl, q, head, ats, rfl, hq.same sH3, good, fun H4 r rs s4 nr hr4 hrs => ?_⟩
    have hrs : Paired (TxtAt K H4) rs ((compsN ats).map (tabsOf ats)) := by
      rw [piecesN_eq] at hrs
      exact hrs
    have lr := paired_len hrs
    rw [List.length_map] at lr
    have cm := comps_many ats
    refine ⟨r, rfl, ⟨_, SqT.of hr4⟩, fun E nE => ?_⟩
    refine walk_tup (xs := rs) (fun k H7 => Same H4 H7 ∧ ∃ us, H7 E = some (.lst us) ∧ Paired (TxtAt K H4) us ((((compsN ats).take k).filter fun g => decide (i ∈ g) && decide (j ∈ g)).map (tabsOf ats))) ⟨same_new nE, [], upd_same, .nil⟩ (fun k H7 _ h => SqT.of (h.1 _ _ hr4)) ?_ ?_
    · rintro k x H7 hx ⟨sm, us, hE, hus⟩
      obtain ⟨xs, hxs, hta⟩ := paired_get hrs hx
      rw [List.getElem?_map] at hxs
      obtain ⟨g, hg, rfl⟩ := Option.map_eq_some_iff.mp hxs
      have hgm := List.mem_of_getElem? hg
      have ft := filter_take (fun g => decide (i ∈ g) && decide (j ∈ g)) (compsN ats) k g hg
      obtain ⟨a, rfl, ha⟩ := hta
      have lu := paired_len hus
      have stay : (decide (i ∈ g) && decide (j ∈ g)) = false → Same H4 H7 ∧ ∃ us, H7 E = some (.lst us) ∧ Paired (TxtAt K H4) us ((((compsN ats).take (k + 1)).filter fun g => decide (i ∈ g) && decide (j ∈ g)).map (tabsOf ats)) := fun e => by
        rw [if_neg (by rw [e]; exact Bool.false_ne_true), List.append_nil] at ft
        rw [ft]
        exact ⟨sm, us, hE, hus⟩
      refine ⟨rfl, ?_⟩
      refine ⟨_, rfl, _, rfl, a, _, rfl, .inr (seqT sm ha), rfl, flat_strs' _, _, rfl, ?_⟩
      rw [if_neg Bool.false_ne_true, in_tabsOf dist hi (comps_lt hgm)]
      by_cases hig : i ∈ g
      · rw [decide_eq_true hig]
        refine iteT ⟨_, rfl, _, rfl, a, _, rfl, .inr (seqT sm ha), rfl, flat_strs' _, _, rfl, ?_⟩
        rw [if_neg Bool.false_ne_true, in_tabsOf dist hj (comps_lt hgm)]
        by_cases hjg : j ∈ g
        · rw [decide_eq_true hjg]
          rw [if_pos (by rw [decide_eq_true hig, decide_eq_true hjg]; rfl)] at ft
          refine iteT ⟨_, rfl, _, hE, ?_, fun b u e => ?_, us ++ [.ref a], upd_same, ?_⟩
          · rw [lu, List.length_map]
            refine small1000 (Nat.le_trans (List.length_filter_le _ _) ?_)
            rw [List.length_take]
            omega
          · rw [upd_ne (ne_of_none e nE)]
            exact sm _ _ e
          · rw [ft, List.map_append]
            exact Paired.snoc hus ⟨a, rfl, ha⟩
        · rw [decide_eq_false hjg]
          exact iteF (stay (by rw [decide_eq_false hjg, Bool.and_false]))
      · rw [decide_eq_false hig]
        exact iteF (iteF (stay (by rw [decide_eq_false hig, Bool.false_and])))
    rintro H5 ⟨s5, us, hE, hus⟩
    rw [lr, List.take_length] at hus
    refine ⟨Nat.zero_le _, fun e ne => ?_⟩
    have s6 := s5.trans (same_new (o := .lst []) ne)
    have hE6 := at_new (u := .lst []) hE ne
    have he6 : upd H5 e (.lst []) e = some (.lst []) := upd_same
    generalize upd H5 e (.lst []) = H6 at s6 hE6 he6 ⊢
    have hus6 := paired_mono (fun _ _ y => TxtAt.same y s6) hus
    have fits := txts_fit (xss := ((compsN ats).filter fun g => decide (i ∈ g) && decide (j ∈ g)).map (tabsOf ats)) (fun xs hx => by
      obtain ⟨g, hg, rfl⟩ := List.mem_map.mp hx
      have hg := (List.mem_filter.mp hg).1
      refine ⟨tabsOf_ok good (comps_lt hg), ?_⟩
      unfold tabsOf
      rw [List.length_map]
      have := comps_len hg
      omega)
    refine ⟨.list _, .list [], .lst (SqL.of hE6) (txts_dp hus6), .lst (SqL.of he6) .nil, shaped_list fits.lay fits.dep (by decide), by decide, _, rfl, ?_⟩
    rw [eqv_nil]
    have emp : ((((compsN ats).filter fun g => decide (i ∈ g) && decide (j ∈ g)).map (tabsOf ats)).map tD).isEmpty = !cnB ats i j := by
      rw [← piece_filter hi]
      cases (compsN ats).filter fun g => decide (i ∈ g) && decide (j ∈ g) <;> rfl
    rw [emp]
    have s46 := s4.trans s6
    cases cc : cnB ats i j with
    | false =>
      rw [Bool.not_false]
      refine iteT (nope ?_ H6 (sH3.trans s46))
      unfold rulB
      rw [cc, Bool.false_and]
    | true =>
      rw [Bool.not_true]
      refine iteF ?_
      exact fU H6 d D (sH3.trans s46) (own3.same s46) (SqL.of (s46 _ _ hD3)) c1 cc
end
end Cut
set_option Elab.async false
set_option linter.all false
set_option maxRecDepth 100000
set_option maxHeartbeats 8000000
namespace Cut
open PySem PySem.Spec PyProof.Rows L2
/-! ### the ruling tables, as the law finds them -/
theorem loose_asc (ats : List Atm) (ps : List (Str × V)) : (looseN ats ps).Pairwise (· < ·) := asc_filter _ _
theorem strs_fitL {ats : List Atm} (good : GoodQ ats) {L : List Nat} (lt : ∀ k ∈ L, k < ats.length) : Fits ((tabsOf ats L).map .str) 1 (10 * L.length) := by
  have f := Fits.of (n := 1) (m := 8) (ds := (tabsOf ats L).map .str) fun d hd => by
    obtain ⟨x, hx, rfl⟩ := List.mem_map.mp hd
    exact name_fit (tabsOf_ok good lt x hx)
  rw [List.length_map] at f
  unfold tabsOf at f ⊢
  rw [List.length_map] at f
  exact f
def retOf : Stmt → Expr
  | .Return (some e) _ => e
  | _ => .Constant .none 0 ⟨0, 0, 0, 0⟩
abbrev scFO : Scope := scopeOf (retOf ((defBody sFirst).getD 1 (.Pass ⟨0, 0, 0, 0⟩)))
abbrev NFi : List Str := ["question", "prices", "some", "one", "other"]
theorem scFirst : FnScope NFi ["question", "prices"] (defScope sFirst) := ⟨rfl, rfl, rfl, by decide +kernel, rfl, by decide +kernel, by decide +kernel⟩
section
variable {P : Program} {w : World} {K : PySem.W.Frag} {mg : Str → Option Value} {base : Heap}
def spFirst (K : PySem.W.Frag) : Sp := fun vs H Q _ => ∃ (q pr : Addr) (head : List Str) (ats : List Atm) (ps : List (Str × V)), vs = [.ref q, .ref pr] ∧ QAt K H q head ats ∧ PricesAt H pr ats ps ∧ GoodQ ats ∧
  ∀ (H' : Hp) (r : Addr), Same H H' → H r = none → H' r = some (.lst (tabsV ats (firstN ats ps))) → Q (.ref r) H'
theorem ok_first {f fL fR : Addr} {fd fdL fdR : FuncData} (F : Fun K "_law_first_tables" "_law_first_tables" sFirst f fd) (B : Blt mg)
    (FL : Fun K "_law_loose" "_law_loose" sLooseL fL fdL) (bL : Binds K fdL ["question", "prices"] []) (gL : mg "_law_loose" = some (.ref fL)) (GL : FnOk P w K mg base CX0 1 fL fdL ["question", "prices"] (spLooseL K))
    (FR : Fun K "_law_rules" "_law_rules" sRulesL fR fdR) (bR : Binds K fdR ["question", "prices", "one", "other"] []) (gR : mg "_law_rules" = some (.ref fR)) (GR : FnOk P w K mg base CX0 3 fR fdR ["question", "prices", "one", "other"] (spRulesL K)) :
    FnOk P w K mg base CX0 4 f fd ["question", "prices"] (spFirst K) := by
  refine F.ok scFirst (fun vs H Q E h => ?_) (fun cdv A outer s H vs Q E hr h => ?_)
  · obtain ⟨q, pr, head, ats, ps, rfl, _⟩ := h
    rfl
  · obtain ⟨q, pr, head, ats, ps, rfl, hq, hp, good, fin⟩ := h
    have nd := scFirst.nd
    have hr1 : Room 1 _ := hr.mono (by decide)
    have fm := good.many
    have ll := loose_len ats ps
    refine ⟨_, pss_cons (ps_set (i := 2) nd rfl (.inr rfl) (pe_call GL hr1 (by rfl) gL FL.kp bL .nil pass0 (pa_cons (pv 0) (pa_cons (pv 1) pa_nil))))
      (pss_one (ps_ret (pe_lc (own := [("one", 3)]) (g := gName 3) (tt := tTest (tOp (rEqD K) (tLc (iList K (tVar 2)) (gName 4) (tB (tCall (spRulesL K) [] E0 (tCons (tVar 0) (tCons (tVar 1) (tCons (tVar 4) (tCons (tVar 3) tNil)))))) (tVar 4) [4]) (tLst tNil))) (te := tVar 3) (by rfl) nd (pi_list (pv 2)) (blkOk_by (own := [("one", 3)]) (N := NFi) (sc := defScope sFirst) (by decide +kernel))
        (fun _ _ _ _ _ => pg_name (i := 3) nd rfl (Or.inr rfl))
        (fun _ _ _ _ _ => pts_one (pt_cmpR (op_eqD hr.units) (pe_lc (own := [("other", 4)]) (g := gName 4) (by rfl) nd (pi_list (pv 2)) (blkOk_by (own := [("other", 4)]) (N := NFi) (sc := relS scFO (defScope sFirst)) (by decide +kernel))
          (fun _ _ _ _ _ => pg_name (i := 4) nd rfl (Or.inl rfl)) (fun _ _ _ _ _ => pts_one (pt_val (pe_call GR hr (by rfl) gR FR.kp bR .nil pass0 (pa_cons (pv 0) (pa_cons (pv 1) (pa_cons (pv 4) (pa_cons (pv 3) pa_nil))))))) (fun _ _ _ _ _ => pv 4)) (pe_lst pa_nil) (nomark _)))
        (fun _ _ _ _ _ => pv 3)))), ?_⟩
    refine ⟨_, rfl, _, rfl, q, pr, head, ats, ps, rfl, hq, good.few6, hp, fun H1 l s1 n1 hl => ?_⟩
    refine ⟨_, rfl, l, rfl, ⟨_, SqL.of hl⟩, fun D nD => ?_⟩
    have tl : (tabsV ats (looseN ats ps)).length = (looseN ats ps).length := List.length_map ..
    have at_ : ∀ {k : Nat} {x : V}, (tabsV ats (looseN ats ps))[k]? = some x → ∃ j, (looseN ats ps)[k]? = some j ∧ x = .str (tabAt ats j) := fun {k x} hx => by
      unfold tabsV at hx
      rw [List.getElem?_map] at hx
      obtain ⟨j, hj, rfl⟩ := Option.map_eq_some_iff.mp hx
      exact ⟨j, hj, rfl⟩
    refine walk_list (xs := tabsV ats (looseN ats ps)) (fun k H7 => Same H1 H7 ∧ H7 D = some (.lst (tabsV ats (((looseN ats ps).take k).filter (isR ats ps))))) ⟨same_new nD, upd_same⟩ (fun k H7 _ h => SqL.of (h.1 _ _ hl)) ?_ ?_
    · rintro k x H2 hx ⟨s2, hD⟩
      obtain ⟨j, hj, rfl⟩ := at_ hx
      have jm := List.mem_of_getElem? hj
      obtain ⟨lj, gj⟩ := mem_loose jm
      have ftk := filter_take (isR ats ps) (looseN ats ps) k j hj
      refine ⟨rfl, ?_⟩
      have hl2 := s2 _ _ hl
      refine ⟨_, rfl, l, rfl, ⟨_, SqL.of hl2⟩, fun T nT => ?_⟩
      refine walk_list (xs := tabsV ats (looseN ats ps)) (fun m H8 => Same H2 H8 ∧ H8 T = some (.lst (tabsV ats (((looseN ats ps).take m).filter fun i => rulB ats ps i j)))) ⟨same_new nT, upd_same⟩ (fun m H8 _ h => SqL.of (h.1 _ _ hl2)) ?_ ?_
      · rintro m y H3 hy ⟨s3, hT⟩
        obtain ⟨i, hi, rfl⟩ := at_ hy
        obtain ⟨li, gi⟩ := mem_loose (List.mem_of_getElem? hi)
        have ftm := filter_take (fun i => rulB ats ps i j) (looseN ats ps) m i hi
        have sH := (s1.trans s2).trans s3
        refine ⟨rfl, ?_⟩
        refine ⟨_, rfl, _, rfl, _, rfl, _, rfl, q, pr, head, ats, ps, i, j, rfl, hq.same sH, hp.same sH, good, li, lj, gi, gj, fun H4 s4 => ⟨_, rfl, ?_⟩⟩
        cases c : rulB ats ps i j with
        | true =>
          rw [if_pos c] at ftm
          refine iteT ⟨_, rfl, _, s4 _ _ hT, ?_, fun b u e => ?_, ?_⟩
          · unfold tabsV
            rw [List.length_map]
            refine small1000 (Nat.le_trans (List.length_filter_le _ _) ?_)
            rw [List.length_take]
            omega
          · rw [upd_ne (ne_of_none e nT)]
            exact s4 _ _ (s3 _ _ e)
          · rw [upd_same, ftm]
            unfold tabsV
            rw [List.map_append]
            rfl
        | false =>
          rw [if_neg (by rw [c]; exact Bool.false_ne_true), List.append_nil] at ftm
          refine iteF ⟨s3.trans s4, ?_⟩
          rw [ftm]
          exact s4 _ _ hT
      rintro H3 ⟨s3, hT⟩
      rw [tl, List.take_length] at hT
      refine ⟨Nat.zero_le _, fun e ne => ?_⟩
      have s4 := s3.trans (same_new (o := .lst []) ne)
      have hT4 := at_new (u := .lst []) hT ne
      have he4 : upd H3 e (.lst []) e = some (.lst []) := upd_same
      generalize upd H3 e (.lst []) = H4 at s4 hT4 he4 ⊢
      have fits := strs_fitL good (L := rulN ats ps j) fun k hk => (mem_loose (List.mem_filter.mp hk).1).1
      have hT5 : H4 T = some (.lst ((tabsOf ats (rulN ats ps j)).map V.str)) := by rw [tabsOf_V]; exact hT4
      refine ⟨.list ((tabsOf ats (rulN ats ps j)).map .str), .list [], .lst (SqL.of hT5) (strs_dp _), .lst (SqL.of he4) .nil, shaped_list fits.lay fits.dep (by decide), by decide, _, rfl, ?_⟩
      rw [eqv_nil]
      have emp : ((tabsOf ats (rulN ats ps j)).map PyData.str).isEmpty = isR ats ps j := by
        unfold isR
        cases rulN ats ps j <;> rfl
      rw [emp]
      have hD4 := s4 _ _ hD
      cases c : isR ats ps j with
      | true =>
        rw [if_pos c] at ftk
        refine iteT ⟨_, rfl, _, hD4, ?_, fun b u e => ?_, ?_⟩
        · unfold tabsV
          rw [List.length_map]
          refine small1000 (Nat.le_trans (List.length_filter_le _ _) ?_)
          rw [List.length_take]
          omega
        · rw [upd_ne (ne_of_none e nD)]
          exact s4 _ _ (s2 _ _ e)
        · rw [upd_same, ftk]
          unfold tabsV
          rw [List.map_append]
          rfl
      | false =>
        rw [if_neg (by rw [c]; exact Bool.false_ne_true), List.append_nil] at ftk
        refine iteF ⟨s2.trans s4, ?_⟩
        rw [ftk]
        exact hD4
    · rintro H2 ⟨s2, hD⟩
      rw [tl, List.take_length] at hD
      exact fin H2 D (s1.trans s2) (s1.free nD) hD
end
end Cut
set_option Elab.async false
set_option linter.all false
set_option maxRecDepth 100000
set_option maxHeartbeats 8000000
namespace Cut
open PySem PySem.Spec PyProof.Rows L2
/-! ### name = {k: v for ..} on one row, the name a plain local -/
abbrev InBlk (X : Cx) (sc : Scope) (F : Cx → Prop) : Prop := ∀ (s : Shared) (H : Hp) (C : Addr) (cl : List (Str × Addr)) (fp : List Addr), F (X.blk s H sc (compEnvC sc cl C X.env) fp)
section
variable {X : Cx} {i : Nat} {y : Str} {kx vx tg iter : Expr} {ifs : List Expr} {sc : Scope} {own : List (Str × Nat)} {pos spos py : Pos} {wi : TI} {g : TG} {tt : L2.TT} {tk tv : TE}
theorem ps_setDc (hc : X.calm = true) (hN : X.N.Nodup) (hy : X.N[i]? = some y) (hyl : X.env.scope.names.lookup y = some .local) (hsw : swapsWith (.DictComp kx vx [⟨tg, iter, ifs, 0⟩] sc pos) (some (.Name y py)) spos.line X.env = pure true)
    (hi : PI X tg iter wi) (ok : BlkOk X.N X.env.scope sc own) (hg : InBlk X sc fun Y => PG Y tg g) (ht : InBlk X sc fun Y => PTs Y ifs tt) (hk : InBlk X sc fun Y => PE Y kx tk) (he : InBlk X sc fun Y => PE Y vx tv)
    (hs : ∀ x, foldedSetIterable iter X.env x = pure x := by intro _; rfl) : PS X (.Assign [.Name y py] (.DictComp kx vx [⟨tg, iter, ifs, 0⟩] sc pos) spos) (tAsg (tDc wi g tt tk tv (own.map (·.2))) (gName i)) := by
  refine ⟨fun pins s σ H D I h => ?_⟩
  rw [exec_Assign_Name_used _ _ _ _ hsw]
  refine wpAny_bind (wpAny_standAt (wpAny_bind ?_))
  show wpAny _ X.A (do
    let _ ← comprehension (.DictComp kx vx [⟨tg, iter, ifs, 0⟩] sc pos) sc X.env (firstIterPos [⟨tg, iter, ifs, 0⟩] pos) newDict false (eval iter X.env) (some (assign (.Name y py) X.env))) _ _ s
  have h : tDc wi g tt tk tv (own.map (·.2)) σ H (fun x H1 => gName i x σ H1 D.nx) := h
  have core := dc_core (Qf := fun _ s' => SP X pins D .next s') (use := some (assign (.Name y py) X.env)) (pos := pos) (pos' := firstIterPos [⟨tg, iter, ifs, 0⟩] pos) hc hN I hi ok hg ht hk he hs h
  refine wpAny_bind (thn (core fun L C s' m H' I' q hn f => ?_) fun _ s' hq => wpAny_pure (wpAny_pure hq))
  change wpAny _ _ (assign (Expr.Name y py) X.env (Value.ref L)) _ _ _
  refine wpAny_assign_Name ?_
  refine store_ok2 (v := V.ref L) I' hN hy (.inl hyl) rfl ?_ (.inr hyl)
  rintro s2 I2 ⟨a, sb, ha⟩
  obtain ⟨f0, f1, f2, f3, f4, f5⟩ := f
  have haC : C ≠ a := ha.elim (fun z => by rw [z]; exact f1) fun z e => f4 y a z e.symm
  exact ⟨m, hn.sameBut sb haC, fun h3 sb3 => ⟨_, H', I2.turned (t' := s2.toks) (fun b o hb e => (sb3.2 b hb).trans e) f0 f1 f3 f4 f5, q⟩⟩
theorem sw_trueD {gs : List Comprehension} {l : Nat} {env : Env} (hkd : env.scope.kind = .function) (hy : env.scope.names.lookup y = some .local) (hl : (py.line == pos.line) = true)
    (ha : (sc.names.any fun (n, k) => n == y && (k == .local || k == .cell)) = false) : swapsWith (.DictComp kx vx gs sc pos) (some (.Name y py)) l env = pure true := by
  have e1 : env.kindOf y = some .local := hy
  have e2 : env.blockKind = .function := by unfold Env.blockKind; rw [hkd]; rfl
  unfold swapsWith
  simp only [e2, e1, ha, Expr.pos, hl]
  rfl
end
end Cut
set_option Elab.async false
set_option linter.all false
set_option maxRecDepth 100000
set_option maxHeartbeats 8000000
namespace Cut
open PySem PySem.Spec PyProof.Rows L2
/-! ### prices as tuples -/
abbrev NAt : List Str := ["prices", "table", "price"]
theorem scAsT : FnScope NAt ["prices"] (defScope sAsTuples) := ⟨rfl, rfl, rfl, by decide +kernel, rfl, by decide +kernel, by decide +kernel⟩
theorem okV_ne {v : V} (h : okV v) (n : ¬ v = .non) : ∃ i, v = .int i := by
  rcases h with z | ⟨j, z, _⟩
  · exact absurd z n
  · exact ⟨j, z⟩
theorem prices_fresh {ps : List (Str × V)} (nd : (ps.map (·.1)).Nodup) {H : Hp} {kvs : List (Key × V)} {i : Nat} (p : Paired (WorKv H) kvs (ps.take i)) {q : Str × V} (hq : ps[i]? = some q) : valV kvs (.inr q.1) = none := by
  have key : ∀ {kvs : List (Key × V)} {qs : List (Str × V)}, Paired (WorKv H) kvs qs → q.1 ∉ qs.map (·.1) → valV kvs (.inr q.1) = none := by
    intro kvs qs p
    induction p with
    | nil => intro _; rfl
    | @cons kv r kvs qs f _ ih =>
      intro h
      obtain ⟨k0, v0⟩ := kv
      have f1 : k0 = Sum.inr r.1 := f.1
      rw [List.map_cons, List.mem_cons, not_or] at h
      rw [val_cons, f1, if_neg (fun z => h.1 (Sum.inr.inj z).symm)]
      exact ih h.2
  refine key p fun m => ?_
  obtain ⟨r, hr, er⟩ := List.mem_map.mp m
  obtain ⟨a, ha, ea⟩ := List.getElem_of_mem hr
  rw [List.length_take] at ha
  rw [List.getElem_take] at ea
  obtain ⟨hi, ei⟩ := List.getElem?_eq_some_iff.mp hq
  have := (List.nodup_iff_pairwise_ne.mp nd)
  have ne := List.pairwise_iff_getElem.mp this a i (by rw [List.length_map]; omega) (by rw [List.length_map]; exact hi) (by omega)
  rw [List.getElem_map, List.getElem_map, ea, ei] at ne
  exact ne er
section
variable {P : Program} {w : World} {K : PySem.W.Frag} {mg : Str → Option Value} {base : Heap}
def spAsT (K : PySem.W.Frag) : Sp := fun vs H Q _ => ∃ (pr : Addr) (ats : List Atm) (ps : List (Str × V)), vs = [.ref pr] ∧ PricesAt H pr ats ps ∧ GoodQ ats ∧
  ∀ (H' : Hp) (D : Addr), Same H H' → H D = none → WorAt H' D ats ps → Q (.ref D) H'
theorem ok_asT {f : Addr} {fd : FuncData} (F : Fun K "_as_tuples" "_as_tuples" sAsTuples f fd) (B : Blt mg) : FnOk P w K mg base CX0 1 f fd ["prices"] (spAsT K) := by
  refine F.ok scAsT (fun vs H Q E h => ?_) (fun cdv A outer s H vs Q E hr h => ?_)
  · obtain ⟨pr, ats, ps, rfl, _⟩ := h
    rfl
  · obtain ⟨pr, ats, ps, rfl, hp, good, fin⟩ := h
    have nd := scAsT.nd
    have fm := good.many
    have lp : ps.length = ats.length := by
      have := hp.perm.length_eq
      rw [List.length_map, List.length_map] at this
      exact this
    have ndp : (ps.map (·.1)).Nodup := hp.perm.nodup_iff.mpr good.dist
    have ln : ∀ n : Nat, n ≤ 1000 → n ≤ sizeLine := fun n h => Nat.le_of_lt (small1000 h)
    refine ⟨_, pss_one (ps_ret (pe_lock (pe_dc (own := [("table", 1), ("price", 2)]) (g := gTup K 2 (gCons (gName 1) (gCons (gName 2) gNil))) (tt := tYes) (tk := tVar 1) (by rfl) nd (pi_items (pv 0)) (blkOk_by (own := [("table", 1), ("price", 2)]) (N := NAt) (sc := defScope sAsTuples) (by decide +kernel))
      (fun _ _ _ _ _ => pg_tup (by rfl) (pgs_cons (pg_name (i := 1) nd rfl (.inl rfl)) (pgs_cons (pg_name (i := 2) nd rfl (.inl rfl)) pgs_nil))) (fun _ _ _ _ _ => pts_nil) (fun _ _ _ _ _ => pv 1)
      (fun _ _ _ _ _ => pe_ifExp (pt_cmp (pc_isN (pv 2))) pe_non (pe_tup (pa_cons (pv 2) pa_nil)))))), ?_⟩
    refine ⟨pr, .dK (ps.map encP), hp.at_, trivial, fun od => ?_⟩
    have hL : upd H pr (.frz od (.dK (ps.map encP))) pr = some (.frz od (.dK (ps.map encP))) := upd_same
    have unl : ∀ {H' : Hp}, Same (upd H pr (.frz od (.dK (ps.map encP)))) H' → Same H (upd H' pr (.dK (ps.map encP))) := fun {H'} s => same_unlock hp.at_ s
    have nOf : ∀ {D : Addr}, upd H pr (.frz od (.dK (ps.map encP))) D = none → H D = none := fun {D} e => by
      by_cases c : D = pr
      · rw [c, upd_same] at e
        cases e
      · rw [upd_ne c] at e
        exact e
    generalize upd H pr (.frz od (.dK (ps.map encP))) = HL at hL unl nOf ⊢
    refine ⟨_, rfl, pr, od, _, rfl, hL, fun D nD => ?_⟩
    have Dp : pr ≠ D := ne_of_none hL nD
    refine walk_itemsC (fun i H7 => Same HL H7 ∧ ∃ kvs, H7 D = some (.dK kvs) ∧ Paired (WorKv H7) kvs (ps.take i)) ⟨same_new nD, [], upd_same, .nil⟩ (fun i H7 _ h => h.1 _ _ hL) ?_ ?_
    · rintro i k v T H7 hk ⟨sm, kvs, hD, hkv⟩ nT
      rw [List.getElem?_map] at hk
      obtain ⟨p, hpi, ep⟩ := Option.map_eq_some_iff.mp hk
      have ek : k = Sum.inr p.1 := (Prod.mk.inj ep).1.symm
      have ev : v = p.2 := (Prod.mk.inj ep).2.symm
      subst ek ev
      have hi := (List.getElem?_eq_some_iff.mp hpi).1
      have lk := paired_len hkv
      have okp := hp.ok p (List.mem_of_getElem? hpi)
      have TD : T ≠ D := (ne_of_none hD nT).symm
      have s8 : Same H7 (upd H7 T (.tup [kV (.inr p.1), p.2])) := same_new nT
      have hD8 := s8 _ _ hD
      refine ⟨T, [kV (.inr p.1), p.2], rfl, SqT.of upd_same, rfl, kV (.inr p.1), [p.2], rfl, p.2, [], rfl, rfl, rfl, ?_⟩
      generalize upd H7 T (.tup [kV (.inr p.1), p.2]) = H8 at s8 hD8 ⊢
      have put : ∀ (H9 : Hp) (u : V), Same H8 H9 → ((p.2 = .non ∧ u = .non) ∨ ∃ (j : Int) (a : Addr), p.2 = .int j ∧ u = .ref a ∧ H9 a = some (.tup [.int j])) →
          Same HL (upd H9 D (.dK (putK kvs (.inr p.1) u))) ∧ ∃ ls, upd H9 D (.dK (putK kvs (.inr p.1) u)) D = some (.dK ls) ∧ Paired (WorKv (upd H9 D (.dK (putK kvs (.inr p.1) u)))) ls (ps.take (i + 1)) := by
        intro H9 u s9 hu
        have hD9 := s9 _ _ hD8
        have off : ∀ {a : Addr} {xs : List V}, H9 a = some (.tup xs) → upd H9 D (.dK (putK kvs (.inr p.1) u)) a = some (.tup xs) := fun {a xs} e => by
          rw [upd_ne (fun z => by rw [z, hD9] at e; cases e)]
          exact e
        refine ⟨fun b o e => ?_, _, upd_same, ?_⟩
        · rw [upd_ne (ne_of_none e nD)]
          exact s9 _ _ (s8 _ _ (sm _ _ e))
        · rw [putK_new _ (prices_fresh ndp hkv hpi), List.take_add_one, hpi]
          refine Paired.snoc (paired_mono (fun kv q y => ?_) hkv) ⟨rfl, ?_⟩
          · obtain ⟨y1, y2 | ⟨j, a, y2, y3, y4⟩⟩ := y
            · exact ⟨y1, .inl y2⟩
            · refine ⟨y1, .inr ⟨j, a, y2, y3, ?_⟩⟩
              have := off (s9 _ _ (s8 _ _ y4))
              rw [putK_new _ (prices_fresh ndp hkv hpi)] at this
              exact this
          · rcases hu with z | ⟨j, a, z1, z2, z3⟩
            · exact .inl z
            · refine .inr ⟨j, a, z1, z2, ?_⟩
              have := off z3
              rw [putK_new _ (prices_fresh ndp hkv hpi)] at this
              exact this
      have sz : kvs.length < sizeLine := by
        rw [lk, List.length_take]
        exact small1000 (by omega)
      refine tyes ?_
      refine ⟨_, rfl, _, rfl, _, rfl, ?_⟩
      by_cases c : p.2 = .non
      · rw [decide_eq_true c]
        refine iteT ⟨kvs, .inr p.1, rfl, hD8, sz, ?_⟩
        exact put H8 .non (Same.refl H8) (.inl ⟨c, rfl⟩)
      · rw [decide_eq_false c]
        obtain ⟨j, ej⟩ := okV_ne okp c
        refine iteF ⟨_, rfl, ln 1 (by decide), fun z nz => ?_⟩
        have s9 : Same H8 (upd H8 z (.tup [p.2])) := same_new nz
        refine ⟨kvs, .inr p.1, rfl, s9 _ _ hD8, sz, ?_⟩
        refine put _ (.ref z) s9 (.inr ⟨j, z, ej, rfl, ?_⟩)
        rw [upd_same, ej]
    · rintro H7 ⟨sm, kvs, hD, hkv⟩
      rw [List.length_map, List.take_length] at hkv
      refine ⟨sm _ _ hL, fin _ D (unl sm) (nOf nD) ?_⟩
      refine ⟨⟨kvs, by rw [upd_ne Dp.symm]; exact hD, paired_mono (fun kv q y => ?_) hkv⟩, hp.perm, hp.ok⟩
      obtain ⟨y1, y2 | ⟨j, a, y2, y3, y4⟩⟩ := y
      · exact ⟨y1, .inl y2⟩
      · refine ⟨y1, .inr ⟨j, a, y2, y3, ?_⟩⟩
        rw [upd_ne (fun z => by rw [z, sm _ _ hL] at y4; cases y4)]
        exact y4
end
end Cut
set_option Elab.async false
set_option linter.all false
set_option maxRecDepth 100000
set_option maxHeartbeats 8000000
namespace Cut
open PySem PySem.Spec PyProof.Rows L2
/-! ### who rules each table, as the program finds it -/
def RuKv (H : Hp) (ats : List Atm) (S : Nat → List Nat) (kv : Key × V) (j : Nat) : Prop := kv.1 = Sum.inr (tabAt ats j) ∧ ∃ l, kv.2 = .ref l ∧ H l = some (.lst (tabsV ats (S j)))
def RuA (H : Hp) (R : Addr) (ats : List Atm) (L : List Nat) (S : Nat → List Nat) : Prop := ∃ kvs : List (Key × V), H R = some (.dK kvs) ∧ Paired (RuKv H ats S) kvs L
theorem RuKv.same {H H' : Hp} {ats : List Atm} {S : Nat → List Nat} {kv : Key × V} {j : Nat} (x : RuKv H ats S kv j) (e : Same H H') : RuKv H' ats S kv j := let ⟨h1, l, h2, h3⟩ := x; ⟨h1, l, h2, e _ _ h3⟩
theorem RuA.same {H H' : Hp} {R : Addr} {ats : List Atm} {L : List Nat} {S : Nat → List Nat} (x : RuA H R ats L S) (e : Same H H') : RuA H' R ats L S := let ⟨kvs, h1, h2⟩ := x; ⟨kvs, e _ _ h1, paired_mono (fun _ _ y => y.same e) h2⟩
theorem putK_old {kvs : List (Key × V)} {k : Key} {v : V} (h : ∃ kv ∈ kvs, kv.1 = k) : putK kvs k v = kvs.map fun kv => if kv.1 = k then (kv.1, v) else kv := by
  unfold putK
  rw [if_pos]
  obtain ⟨kv, hk, e⟩ := h
  exact List.any_eq_true.mpr ⟨kv, hk, decide_eq_true e⟩
theorem paired_map {α β γ : Type} {F : α → β → Prop} {G : γ → β → Prop} (f : α → γ) : ∀ {xs : List α} {ys : List β}, Paired F xs ys → (∀ a b, b ∈ ys → F a b → G (f a) b) → Paired G (xs.map f) ys
  | _, _, .nil, _ => .nil
  | _, _, .cons h r, t => .cons (t _ _ List.mem_cons_self h) (paired_map f r fun a b hb => t a b (List.mem_cons_of_mem _ hb))
theorem paired_mem {α β : Type} {F : α → β → Prop} {xs : List α} {ys : List β} (h : Paired F xs ys) {y : β} (hy : y ∈ ys) : ∃ x ∈ xs, F x y := by
  induction h with
  | nil => simp at hy
  | cons f _ ih =>
    rcases List.mem_cons.mp hy with rfl | hy
    · exact ⟨_, List.mem_cons_self, f⟩
    · obtain ⟨x, hx, g⟩ := ih hy
      exact ⟨x, List.mem_cons_of_mem _ hx, g⟩
theorem RuA.put {H : Hp} {R l : Addr} {ats : List Atm} {L : List Nat} {S : Nat → List Nat} {j : Nat} {new : List Nat} {kvs : List (Key × V)} (hR : H R = some (.dK kvs)) (hk : Paired (RuKv H ats S) kvs L) (nd : (ats.map (·.1)).Nodup) (lt : ∀ k ∈ L, k < ats.length) (hj : j ∈ L) (hl : H l = some (.lst (tabsV ats new))) :
    RuA (upd H R (.dK (putK kvs (.inr (tabAt ats j)) (.ref l)))) R ats L (fun k => if k = j then new else S k) := by
  refine ⟨_, upd_same, ?_⟩
  have keep : ∀ {a : Addr} {xs : List V} {u : HO}, H a = some (.lst xs) → upd H R u a = some (.lst xs) := fun {a xs u} e => by
    rw [upd_ne (fun z => by rw [z, hR] at e; cases e)]
    exact e
  obtain ⟨kv0, hkv0, e0, _⟩ := paired_mem hk hj
  rw [putK_old ⟨kv0, hkv0, e0⟩]
  refine paired_map _ hk fun kv k hkL y => ?_
  obtain ⟨y1, m, y2, y3⟩ := y
  by_cases c : k = j
  · subst c
    rw [if_pos y1]
    refine ⟨y1, l, rfl, ?_⟩
    show upd H R _ l = some (HO.lst (tabsV ats (if k = k then new else S k)))
    rw [if_pos rfl]
    exact keep hl
  · have ne : ¬ kv.1 = Sum.inr (tabAt ats j) := fun z => c (tab_inj nd (lt k hkL) (lt j hj) (Sum.inr.inj (y1.symm.trans z)))
    rw [if_neg ne]
    refine ⟨y1, m, y2, ?_⟩
    show upd H R _ m = some (HO.lst (tabsV ats (if k = j then new else S k)))
    rw [if_neg c]
    exact keep y3
theorem RuA.get {H : Hp} {R : Addr} {ats : List Atm} {L : List Nat} {S : Nat → List Nat} (x : RuA H R ats L S) (nd : (ats.map (·.1)).Nodup) (lt : ∀ k ∈ L, k < ats.length) (ndL : L.Nodup) {j : Nat} (hj : j ∈ L) :
    ∃ l, DGet H R (.str (tabAt ats j)) (some (.ref l)) ∧ H l = some (.lst (tabsV ats (S j))) := by
  obtain ⟨kvs, h1, h2⟩ := x
  suffices g : ∀ {kvs : List (Key × V)} {L : List Nat}, Paired (RuKv H ats S) kvs L → L.Nodup → (∀ k ∈ L, k < ats.length) → j ∈ L → ∃ l, valV kvs (.inr (tabAt ats j)) = some (.ref l) ∧ H l = some (.lst (tabsV ats (S j))) by
    obtain ⟨l, e, hl⟩ := g h2 ndL lt hj
    have z := DGet.k (k := .inr (tabAt ats j)) h1
    rw [e] at z
    exact ⟨l, z, hl⟩
  intro kvs L p
  induction p with
  | nil => intro _ _ h; simp at h
  | @cons kv k kvs L f r ih =>
    intro ndL lt h
    obtain ⟨n1, n2⟩ := List.nodup_cons.mp ndL
    obtain ⟨y1, m, y2, y3⟩ := f
    obtain ⟨k0, v0⟩ := kv
    have y1 : k0 = Sum.inr (tabAt ats k) := y1
    have y2 : v0 = .ref m := y2
    by_cases c : k = j
    · subst c
      exact ⟨m, by rw [val_cons, if_pos y1, y2], y3⟩
    · have hj : j ∈ L := by
        rcases List.mem_cons.mp h with e | e
        · exact absurd e.symm c
        · exact e
      obtain ⟨l, e, hl⟩ := ih n2 (fun k hk => lt k (List.mem_cons_of_mem _ hk)) hj
      refine ⟨l, ?_, hl⟩
      rw [val_cons, if_neg (fun z => c (tab_inj nd (lt k List.mem_cons_self) (lt j h) (Sum.inr.inj (y1.symm.trans z))))]
      exact e
theorem paired_monoM {α β : Type} {F G : α → β → Prop} : ∀ {xs : List α} {ys : List β}, Paired F xs ys → (∀ a b, b ∈ ys → F a b → G a b) → Paired G xs ys
  | _, _, .nil, _ => .nil
  | _, _, .cons h r, t => .cons (t _ _ List.mem_cons_self h) (paired_monoM r fun a b hb => t a b (List.mem_cons_of_mem _ hb))
theorem seqT_butD {K : PySem.W.Frag} {H H' : Hp} {a c : Addr} {l : List (Key × V)} {xs : List V} (e : But a H H') (ha : H a = some (.dK l)) (h : SqT K H c xs) : SqT K H' c xs := by
  rcases h with (h | ⟨o, h⟩) | h
  · exact .inl (.inl (e _ _ (fun z => by rw [z, ha] at h; cases h) h))
  · exact .inl (.inr ⟨o, e _ _ (fun z => by rw [z, ha] at h; cases h) h⟩)
  · exact .inr h
def insideN (ats : List Atm) (ps : List (Str × V)) (g : List Nat) : List Nat := (looseN ats ps).filter fun j => decide (j ∈ g)
theorem inside_rul {ats : List Atm} {ps : List (Str × V)} {g : List Nat} (hg : g ∈ compsN ats) {j : Nat} (hj : j ∈ g) : (insideN ats ps g).filter (fun i => ruB ats ps i j) = rulN ats ps j := by
  unfold insideN rulN
  rw [List.filter_filter]
  refine List.filter_congr fun i _ => ?_
  unfold rulB
  obtain ⟨k, hk, rfl⟩ := List.mem_map.mp hg
  have cj := mem_compN.mp hj
  have e : decide (i ∈ compN ats k) = cnB ats i j := by
    by_cases c : i ∈ compN ats k
    · rw [decide_eq_true c, cnB_iff.mpr ((mem_compN.mp c).symm.trans cj)]
    · cases d : cnB ats i j with
      | false => exact decide_eq_false c
      | true => exact absurd (mem_compN.mpr (cj.trans (cnB_iff.mp d).symm)) c
  rw [e, Bool.and_comm]
theorem in_comp {ats : List Atm} {j : Nat} (hj : j < ats.length) : ∃ g ∈ compsN ats, j ∈ g := by
  obtain ⟨k, hk, hl, ck⟩ := least_of j j (Nat.le_refl _) hj
  exact ⟨compN ats k, List.mem_map.mpr ⟨k, mem_leastN.mpr ⟨by omega, lsB_iff.mp hl⟩, rfl⟩, mem_compN.mpr ck⟩
abbrev NRd : List Str := ["question", "worths", "names", "loose", "ruled", "table", "piece", "inside", "other"]
theorem scRuled : FnScope NRd ["question", "worths"] (defScope sRuled) := ⟨rfl, rfl, rfl, by decide +kernel, rfl, by decide +kernel, by decide +kernel⟩
section
variable {P : Program} {w : World} {K : PySem.W.Frag} {mg : Str → Option Value} {base : Heap}
def spRuled (K : PySem.W.Frag) : Sp := fun vs H Q _ => ∃ (q pr : Addr) (head : List Str) (ats : List Atm) (ps : List (Str × V)), vs = [.ref q, .ref pr] ∧ QAt K H q head ats ∧ WorAt H pr ats ps ∧ GoodQ ats ∧
  ∀ (H' : Hp) (R : Addr), Same H H' → H R = none → RuA H' R ats (looseN ats ps) (rulN ats ps) → Q (.ref R) H'
theorem ok_ruled {f fN fL fP fR : Addr} {fd fdN fdL fdP fdR : FuncData} (F : Fun K "_ruled" "_ruled" sRuled f fd) (B : Blt mg)
    (FN : Fun K "names_by_table" "names_by_table" sNamesBy fN fdN) (bN : Binds K fdN ["question"] []) (gN : mg "names_by_table" = some (.ref fN)) (GN : FnOk P w K mg base CX0 2 fN fdN ["question"] (spOwn K))
    (FL : Fun K "loose_tables" "loose_tables" sLooseT fL fdL) (bL : Binds K fdL ["question", "prices"] []) (gL : mg "loose_tables" = some (.ref fL)) (GL : FnOk P w K mg base CX0 1 fL fdL ["question", "prices"] (spLooseW K))
    (FP : Fun K "pieces" "pieces" sPieces fP fdP) (bP : Binds K fdP ["question"] []) (gP : mg "pieces" = some (.ref fP)) (GP : FnOk P w K mg base CX0 3 fP fdP ["question"] (spPieces K))
    (FR : Fun K "_rules" "_rules" sRules fR fdR) (bR : Binds K fdR ["names", "worths", "tables", "one", "other"] []) (gR : mg "_rules" = some (.ref fR)) (GR : FnOk P w K mg base CX0 1 fR fdR ["names", "worths", "tables", "one", "other"] (spRules K)) :
    FnOk P w K mg base CX0 4 f fd ["question", "worths"] (spRuled K) := by
  refine F.ok scRuled (fun vs H Q E h => ?_) (fun cdv A outer s H vs Q E hr h => ?_)
  · obtain ⟨q, pr, head, ats, ps, rfl, _⟩ := h
    rfl
  · obtain ⟨q, pr, head, ats, ps, rfl, hq, hp, good, fin⟩ := h
    have nd := scRuled.nd
    have hr1 : Room 1 _ := hr.mono (by decide)
    have hr2 : Room 2 _ := hr.mono (by decide)
    have hu := hu_of hr
    have dist := good.dist
    have fm := good.many
    have ll := loose_len ats ps
    have ltL : ∀ k ∈ looseN ats ps, k < ats.length := fun k hk => (mem_loose hk).1
    have ascL := loose_asc ats ps
    refine ⟨_, pss_cons (ps_set (i := 2) nd rfl (.inr rfl) (pe_call GN hr2 (by rfl) gN FN.kp bN .nil pass0 (pa_cons (pv 0) pa_nil)))
      (pss_cons (ps_set (i := 3) nd rfl (.inl rfl) (pe_call GL hr1 (by rfl) gL FL.kp bL .nil pass0 (pa_cons (pv 0) (pa_cons (pv 1) pa_nil))))
      (pss_cons (ps_setDc (i := 4) (own := [("table", 5)]) (g := gName 5) (tt := tYes) (tk := tVar 5) (tv := tLst tNil) (by rfl) nd rfl rfl (sw_trueD rfl rfl rfl (by decide +kernel)) (pi_tup (pv 3)) (blkOk_by (own := [("table", 5)]) (N := NRd) (sc := defScope sRuled) (by decide +kernel))
          (fun _ _ _ _ _ => pg_name (i := 5) nd rfl (Or.inl rfl)) (fun _ _ _ _ _ => pts_nil) (fun _ _ _ _ _ => pv 5) (fun _ _ _ _ _ => pe_lst pa_nil))
      (pss_cons (ps_for PassesOwn.never rfl (pi_tup (pe_call GP hr (by rfl) gP FP.kp bP .nil pass0 (pa_cons (pv 0) pa_nil))) (pg_name (i := 6) nd rfl (.inr rfl))
        (pss_cons (ps_set (i := 7) nd rfl (.inr rfl) (pe_lc (own := [("table", 5)]) (g := gName 5) (tt := tTest (tOp (rIn K false) (tVar 5) (tVar 6))) (te := tVar 5) (by rfl) nd (pi_tup (pv 3)) (blkOk_by (own := [("table", 5)]) (N := NRd) (sc := defScope sRuled) (by decide +kernel))
            (fun _ _ _ _ _ => pg_name (i := 5) nd rfl (Or.inl rfl)) (fun _ _ _ _ _ => pts_one (pt_cmpR op_in_seq (pv 5) (pv 6) (by rfl))) (fun _ _ _ _ _ => pv 5)))
        (pss_one (ps_for PassesOwn.never rfl (pi_list (pv 7)) (pg_name (i := 5) nd rfl (.inr rfl))
          (pss_one (ps_asg (pe_lc (own := [("other", 8)]) (g := gName 8) (tt := tB (tCall (spRules K) [] E0 (tCons (tVar 2) (tCons (tVar 1) (tCons (tVar 7) (tCons (tVar 8) (tCons (tVar 5) tNil))))))) (te := tVar 8) (by rfl) nd (pi_list (pv 7)) (blkOk_by (own := [("other", 8)]) (N := NRd) (sc := defScope sRuled) (by decide +kernel))
            (fun _ _ _ _ _ => pg_name (i := 8) nd rfl (Or.inl rfl)) (fun _ _ _ _ _ => pts_one (pt_val (pe_call GR hr1 (by rfl) gR FR.kp bR .nil pass0 (pa_cons (pv 2) (pa_cons (pv 1) (pa_cons (pv 7) (pa_cons (pv 8) (pa_cons (pv 5) pa_nil)))))))) (fun _ _ _ _ _ => pv 8)) (pg_sub (pv 4) (pv 5) (set_dict hu))))))))
      (pss_one (ps_ret (pv 4)))))), ?_⟩
    refine ⟨_, rfl, q, head, ats, rfl, hq, good.few6, dist, fun H1 d s1 nd1 own => ?_⟩
    refine ⟨_, rfl, _, rfl, q, pr, head, ats, ps, rfl, hq.same s1, good.few6, (hp.same s1).ls, fun H2 lo s2 n2 hlo => ?_⟩
    have sH2 := s1.trans s2
    have tl : (tabsV ats (looseN ats ps)).length = (looseN ats ps).length := List.length_map ..
    have at_ : ∀ {L : List Nat} {k : Nat} {x : V}, (tabsV ats L)[k]? = some x → ∃ j, L[k]? = some j ∧ x = .str (tabAt ats j) := fun {L k x} hx => by
      unfold tabsV at hx
      rw [List.getElem?_map] at hx
      obtain ⟨j, hj, rfl⟩ := Option.map_eq_some_iff.mp hx
      exact ⟨j, hj, rfl⟩
    refine ⟨_, rfl, lo, rfl, ⟨_, SqT.of hlo⟩, fun R nR => ?_⟩
    refine walk_tup (xs := tabsV ats (looseN ats ps)) (fun k H7 => Same H2 H7 ∧ RuA H7 R ats ((looseN ats ps).take k) (fun _ => [])) ⟨same_new nR, [], upd_same, .nil⟩ (fun k H7 _ h => SqT.of (h.1 _ _ hlo)) ?_ ?_
    · rintro k x H7 hx ⟨sm, kvs, hR, hkv⟩
      obtain ⟨j, hj, rfl⟩ := at_ hx
      have lk := paired_len hkv
      refine ⟨rfl, ?_⟩
      refine tyes ?_
      refine ⟨_, rfl, Nat.zero_le _, fun l nl => ⟨kvs, .inr (tabAt ats j), rfl, at_new hR nl, ?_, ?_⟩⟩
      · rw [lk, List.length_take]
        exact small1000 (by omega)
      have hn : valV kvs (.inr (tabAt ats j)) = none := by
        have fresh : j ∉ (looseN ats ps).take k := fun m => by
          obtain ⟨a, ha, e⟩ := List.getElem_of_mem m
          rw [List.length_take] at ha
          rw [List.getElem_take] at e
          obtain ⟨hk, e2⟩ := List.getElem?_eq_some_iff.mp hj
          have := List.pairwise_iff_getElem.mp ascL a k (by omega) hk (by omega)
          omega
        suffices g : ∀ {kvs : List (Key × V)} {L : List Nat}, Paired (RuKv H7 ats fun _ => []) kvs L → (∀ k ∈ L, k < ats.length) → j ∉ L → valV kvs (.inr (tabAt ats j)) = none from g hkv (fun k hk => ltL k (List.mem_of_mem_take hk)) fresh
        intro kvs L p
        induction p with
        | nil => intro _ _; rfl
        | @cons kv k kvs L f r ih =>
          intro lt h
          obtain ⟨y1, m, y2, y3⟩ := f
          obtain ⟨k0, v0⟩ := kv
          have y1 : k0 = Sum.inr (tabAt ats k) := y1
          rw [List.mem_cons, not_or] at h
          rw [val_cons, if_neg (fun z => h.1 (tab_inj dist (ltL j (List.mem_of_getElem? hj)) (lt k List.mem_cons_self) (Sum.inr.inj (z.symm.trans y1))))]
          exact ih (fun k hk => lt k (List.mem_cons_of_mem _ hk)) h.2
      rw [putK_new _ hn]
      have lR : l ≠ R := (ne_of_none hR nl).symm
      refine ⟨fun b o e => ?_, _, upd_same, ?_⟩
      · rw [upd_ne (ne_of_none e nR)]
        exact (same_new nl) _ _ (sm _ _ e)
      · rw [List.take_add_one, hj]
        refine Paired.snoc (paired_mono (fun kv u y => ?_) hkv) ⟨rfl, l, rfl, by rw [upd_ne lR, upd_same]; rfl⟩
        obtain ⟨y1, m, y2, y3⟩ := y
        refine ⟨y1, m, y2, ?_⟩
        rw [upd_ne (fun z => by rw [z, hR] at y3; cases y3)]
        exact (same_new nl) _ _ y3
    rintro H3 ⟨s3, ru⟩
    rw [tl, List.take_length] at ru
    have sH3 := sH2.trans s3
    -- the pieces
    refine ⟨_, rfl, q, head, ats, rfl, hq.same sH3, good.few6, fun H4 r rs s4 nr hr4 hrs => ?_⟩
    have hrs : Paired (TxtAt K H4) rs ((compsN ats).map (tabsOf ats)) := by
      rw [piecesN_eq] at hrs
      exact hrs
    have lr := paired_len hrs
    rw [List.length_map] at lr
    have s24 := s3.trans s4
    have Rold : ∀ {a : Addr} {o : HO}, H2 a = some o → a ≠ R := fun e => ne_of_none e nR
    have hr4R : r ≠ R := by
      obtain ⟨kvs, hR, _⟩ := ru
      exact (ne_of_none hR nr).symm
    refine ⟨r, rfl, ⟨_, SqT.of hr4⟩, ?_⟩
    obtain ⟨kvs4, hR4, _⟩ := ru.same s4
    have sOf : ∀ {H' : Hp}, But R H4 H' → Same H2 H' := fun {H'} b c o e => b _ _ (Rold e) (s24 _ _ e)
    have tOf : ∀ {H' : Hp} {a : Addr} {xs : List V}, But R H4 H' → SqT K H4 a xs → SqT K H' a xs := fun {H' a xs} b h => seqT_butD b hR4 h
    have own2 := own.same s2
    have hp2 := hp.same sH2
    refine for_tup (xs := rs) (fun k σ H' => ∃ x5 x6 x7, σ = [some (.ref q), some (.ref pr), some (.ref d), some (.ref lo), some (.ref R), x5, x6, x7, none] ∧ But R H4 H' ∧ ∃ S, RuA H' R ats (looseN ats ps) S ∧ ∀ j ∈ looseN ats ps, (∃ g ∈ (compsN ats).take k, j ∈ g) → S j = rulN ats ps j)
      ⟨none, none, none, rfl, fun b o _ e => e, fun _ => [], ru.same s4, fun j _ h => by obtain ⟨g, hg, _⟩ := h; simp at hg⟩ (fun k σ H' _ h => by obtain ⟨_, _, _, _, b, _⟩ := h; exact tOf b (SqT.of hr4)) ?_ ?_
    · rintro k x σ H5 hx ⟨x5, x6, x7, rfl, but, S, ru5, hS⟩
      obtain ⟨xs, hxs, hta⟩ := paired_get hrs hx
      rw [List.getElem?_map] at hxs
      obtain ⟨g, hg, rfl⟩ := Option.map_eq_some_iff.mp hxs
      have hgm := List.mem_of_getElem? hg
      obtain ⟨a, rfl, ha⟩ := hta
      have ha5 := tOf but ha
      have s25 := sOf but
      refine ⟨_, rfl, lo, rfl, ⟨_, SqT.of (s25 _ _ hlo)⟩, fun T nT => ?_⟩
      refine walk_tup (xs := tabsV ats (looseN ats ps)) (fun m H7 => Same H5 H7 ∧ H7 T = some (.lst (tabsV ats (((looseN ats ps).take m).filter fun j => decide (j ∈ g))))) ⟨same_new nT, upd_same⟩ (fun m H7 _ h => SqT.of (h.1 _ _ (s25 _ _ hlo))) ?_ ?_
      · rintro m y H7 hy ⟨sm, hT⟩
        obtain ⟨j, hj, rfl⟩ := at_ hy
        have ftm := filter_take (fun j => decide (j ∈ g)) (looseN ats ps) m j hj
        refine ⟨rfl, ?_⟩
        refine ⟨_, rfl, _, rfl, a, _, rfl, .inr (seqT sm ha5), rfl, flat_strs' _, _, rfl, ?_⟩
        rw [if_neg Bool.false_ne_true, in_tabsOf dist (ltL j (List.mem_of_getElem? hj)) (comps_lt hgm)]
        by_cases hjg : j ∈ g
        · rw [if_pos (decide_eq_true hjg)] at ftm
          rw [decide_eq_true hjg]
          refine iteT ⟨_, rfl, _, hT, ?_, fun b u e => ?_, ?_⟩
          · unfold tabsV
            rw [List.length_map]
            refine small1000 (Nat.le_trans (List.length_filter_le _ _) ?_)
            rw [List.length_take]
            omega
          · rw [upd_ne (ne_of_none e nT)]
            exact sm _ _ e
          · rw [upd_same, ftm]
            unfold tabsV
            rw [List.map_append]
            rfl
        · rw [if_neg (by rw [decide_eq_false hjg]; exact Bool.false_ne_true), List.append_nil] at ftm
          rw [decide_eq_false hjg]
          refine iteF ⟨sm, ?_⟩
          rw [ftm]
          exact hT
      rintro H6 ⟨s6, hT⟩
      rw [tl, List.take_length] at hT
      have hT : H6 T = some (.lst (tabsV ats (insideN ats ps g))) := hT
      have TR : T ≠ R := by
        obtain ⟨kvs, hR, _⟩ := ru5
        exact (ne_of_none hR nT).symm
      have subIn : ∀ j ∈ insideN ats ps g, j ∈ looseN ats ps ∧ j ∈ g := fun j hj => ⟨(List.mem_filter.mp hj).1, of_decide_eq_true (List.mem_filter.mp hj).2⟩
      have ascIn : (insideN ats ps g).Pairwise (· < ·) := List.Pairwise.sublist List.filter_sublist ascL
      have lenIn : (insideN ats ps g).length ≤ 6 := Nat.le_trans (List.length_filter_le _ _) (by omega)
      have tlIn : (tabsV ats (insideN ats ps g)).length = (insideN ats ps g).length := List.length_map ..
      refine ⟨_, rfl, T, rfl, ⟨_, SqL.of hT⟩, ?_⟩
      refine for_lst (xs := tabsV ats (insideN ats ps g)) (fun m σ H' => ∃ x5, σ = [some (.ref q), some (.ref pr), some (.ref d), some (.ref lo), some (.ref R), x5, some (.ref a), some (.ref T), none] ∧ But R H4 H' ∧ H' T = some (.lst (tabsV ats (insideN ats ps g))) ∧ ∃ S, RuA H' R ats (looseN ats ps) S ∧
          (∀ j ∈ looseN ats ps, (∃ g ∈ (compsN ats).take k, j ∈ g) → S j = rulN ats ps j) ∧ ∀ j ∈ (insideN ats ps g).take m, S j = rulN ats ps j)
        ⟨x5, rfl, fun b o n e => s6 _ _ (but _ _ n e), hT, S, ru5.same s6, hS, fun j hj => by simp at hj⟩ (fun m σ H' _ h => by obtain ⟨_, _, _, hT, _⟩ := h; exact SqL.of hT) ?_ ?_
      · rintro m y σ H7 hy ⟨x5, rfl, but7, hT7, S, ru7, hS, hS2⟩
        obtain ⟨j, hj, rfl⟩ := at_ hy
        have hjIn := List.mem_of_getElem? hj
        obtain ⟨hjL, hjg⟩ := subIn j hjIn
        have s27 := sOf but7
        refine ⟨_, rfl, T, rfl, ⟨_, SqL.of hT7⟩, fun U nU => ?_⟩
        refine walk_list (xs := tabsV ats (insideN ats ps g)) (fun p H8 => Same H7 H8 ∧ H8 U = some (.lst (tabsV ats (((insideN ats ps g).take p).filter fun i => ruB ats ps i j)))) ⟨same_new nU, upd_same⟩ (fun p H8 _ h => SqL.of (h.1 _ _ hT7)) ?_ ?_
        · rintro p z H8 hz ⟨s8, hU⟩
          obtain ⟨i, hi, rfl⟩ := at_ hz
          have ftp := filter_take (fun i => ruB ats ps i j) (insideN ats ps g) p i hi
          have s28 := s27.trans s8
          refine ⟨rfl, ?_⟩
          refine ⟨_, rfl, _, rfl, _, rfl, _, rfl, _, rfl, d, pr, T, ats, ps, insideN ats ps g, i, j, rfl, own2.same s28, hp2.same s28, good, SqL.of (s8 _ _ hT7), ascIn, fun k hk => (subIn k hk).1, List.mem_of_getElem? hi, hjIn, fun H9 s9 => ⟨_, rfl, ?_⟩⟩
          cases c : ruB ats ps i j with
          | true =>
            rw [if_pos c] at ftp
            refine iteT ⟨_, rfl, _, s9 _ _ hU, ?_, fun b u e => ?_, ?_⟩
            · unfold tabsV
              rw [List.length_map]
              refine small1000 (Nat.le_trans (List.length_filter_le _ _) ?_)
              rw [List.length_take]
              omega
            · rw [upd_ne (ne_of_none e nU)]
              exact s9 _ _ (s8 _ _ e)
            · rw [upd_same, ftp]
              unfold tabsV
              rw [List.map_append]
              rfl
          | false =>
            rw [if_neg (by rw [c]; exact Bool.false_ne_true), List.append_nil] at ftp
            refine iteF ⟨s8.trans s9, ?_⟩
            rw [ftp]
            exact s9 _ _ hU
        rintro H8 ⟨s8, hU⟩
        rw [tlIn, List.take_length, inside_rul hgm hjg] at hU
        obtain ⟨kvs8, hR8, pk8⟩ := ru7.same s8
        have lk := paired_len pk8
        refine ⟨_, rfl, _, rfl, R, _, rfl, DPut.k (k := .inr (tabAt ats j)) hR8 ?_, ?_⟩
        · rw [lk]
          exact small1000 (by omega)
        refine ⟨_, rfl, fun b o n e => ?_, ?_, fun k => if k = j then rulN ats ps j else S k, RuA.put hR8 pk8 dist ltL hjL hU, fun i hiL hg => ?_, fun i hi => ?_⟩
        · rw [upd_ne n]
          exact s8 _ _ (but7 _ _ n e)
        · rw [upd_ne TR]
          exact s8 _ _ hT7
        · show (if i = j then rulN ats ps j else S i) = rulN ats ps i
          by_cases c : i = j
          · rw [if_pos c, c]
          · rw [if_neg c]
            exact hS i hiL hg
        · show (if i = j then rulN ats ps j else S i) = rulN ats ps i
          by_cases c : i = j
          · rw [if_pos c, c]
          · rw [if_neg c]
            rw [List.take_add_one, hj] at hi
            rcases List.mem_append.mp hi with hi | hi
            · exact hS2 i hi
            · exact absurd (by simpa using hi) c
      · rintro σ H7 ⟨x5, rfl, but7, hT7, S, ru7, hS, hS2⟩
        rw [tlIn, List.take_length] at hS2
        refine ⟨_, _, _, rfl, but7, S, ru7, fun j hjL hg2 => ?_⟩
        obtain ⟨g2, hg2, hjg2⟩ := hg2
        rw [List.take_add_one, hg] at hg2
        rcases List.mem_append.mp hg2 with h | h
        · exact hS j hjL ⟨g2, h, hjg2⟩
        · have h : g2 = g := by simpa using h
          rw [h] at hjg2
          exact hS2 j (List.mem_filter.mpr ⟨hjL, decide_eq_true hjg2⟩)
    · rintro σ H5 ⟨x5, x6, x7, rfl, but, S, ru5, hS⟩
      rw [lr, List.take_length] at hS
      refine ⟨_, rfl, ?_⟩
      obtain ⟨kvs5, hR5, pk5⟩ := ru5
      refine fin H5 R (sH2.trans (sOf but)) (sH2.free nR) ⟨kvs5, hR5, paired_monoM pk5 fun kv j hj y => ?_⟩
      obtain ⟨y1, l, y2, y3⟩ := y
      refine ⟨y1, l, y2, ?_⟩
      rw [hS j hj (in_comp (ltL j hj))] at y3
      exact y3
end
end Cut
set_option Elab.async false
set_option linter.all false
set_option maxRecDepth 100000
set_option maxHeartbeats 8000000
namespace Cut
open PySem PySem.Spec PyProof.Rows L2
/-! ### ruling, rulers -/
noncomputable def frN (ats : List Atm) (ps : List (Str × V)) (j : Nat) : List Nat := (rulN ats ps j).filter (isR ats ps)
noncomputable def pairsN (ats : List Atm) (ps : List (Str × V)) : List (Nat × Nat) := ((looseN ats ps).filter fun j => !isR ats ps j).map fun j => (j, (frN ats ps j).headD 0)
def PairAt (K : PySem.W.Frag) (H : Hp) (ats : List Atm) (v : V) (p : Nat × Nat) : Prop := ∃ a, v = .ref a ∧ SqT K H a [.str (tabAt ats p.1), .str (tabAt ats p.2)]
theorem ru_new {H : Hp} {ats : List Atm} {S : Nat → List Nat} (nd : (ats.map (·.1)).Nodup) {kvs : List (Key × V)} {L : List Nat} {j : Nat} (p : Paired (RuKv H ats S) kvs L) (lt : ∀ k ∈ L, k < ats.length) (hj : j < ats.length) (h : j ∉ L) : valV kvs (.inr (tabAt ats j)) = none := by
  induction p with
  | nil => rfl
  | @cons kv k kvs L f r ih =>
    obtain ⟨y1, m, y2, y3⟩ := f
    obtain ⟨k0, v0⟩ := kv
    have y1 : k0 = Sum.inr (tabAt ats k) := y1
    rw [List.mem_cons, not_or] at h
    rw [val_cons, if_neg (fun z => h.1 (tab_inj nd hj (lt k List.mem_cons_self) (Sum.inr.inj (z.symm.trans y1))))]
    exact ih (fun k hk => lt k (List.mem_cons_of_mem _ hk)) h.2
theorem fresh_take {L : List Nat} (asc : L.Pairwise (· < ·)) {k j : Nat} (hj : L[k]? = some j) : j ∉ L.take k := fun m => by
  obtain ⟨a, ha, e⟩ := List.getElem_of_mem m
  rw [List.length_take] at ha
  rw [List.getElem_take] at e
  obtain ⟨hk, e2⟩ := List.getElem?_eq_some_iff.mp hj
  have := List.pairwise_iff_getElem.mp asc a k (by omega) hk (by omega)
  omega
theorem tabs_at {ats : List Atm} {L : List Nat} {k : Nat} {x : V} (hx : (tabsV ats L)[k]? = some x) : ∃ j, L[k]? = some j ∧ x = .str (tabAt ats j) := by
  unfold tabsV at hx
  rw [List.getElem?_map] at hx
  obtain ⟨j, hj, rfl⟩ := Option.map_eq_some_iff.mp hx
  exact ⟨j, hj, rfl⟩
theorem tabs_small {ats : List Atm} {L : List Nat} (h : L.length ≤ 900) : (tabsV ats L).length < sizeLine := by
  unfold tabsV
  rw [List.length_map]
  exact small1000 (by omega)
theorem tabs_snoc (ats : List Atm) (L : List Nat) (j : Nat) : tabsV ats (L ++ [j]) = tabsV ats L ++ [.str (tabAt ats j)] := by
  unfold tabsV
  rw [List.map_append]
  rfl
theorem empty_tabs (ats : List Atm) (L : List Nat) : (tabsV ats L).isEmpty = L.isEmpty := by
  unfold tabsV
  cases L <;> rfl
theorem take_len {p : Nat → Bool} {L : List Nat} {k : Nat} (h : L.length ≤ 900) : ((L.take k).filter p).length ≤ 900 := by
  refine Nat.le_trans (List.length_filter_le _ _) ?_
  rw [List.length_take]
  omega
theorem notB {A B : Prop} {c d : Bool} (e : (!c) = d) (h : if d = true then A else B) : if (!c) = true then A else B := by
  rw [e]
  exact h
abbrev NRg : List Str := ["question", "worths", "ruled", "table"]
abbrev NR1 : List Str := ["question", "prices"]
theorem scRuling : FnScope NR1 ["question", "prices"] (defScope sRuling) := ⟨rfl, rfl, rfl, by decide +kernel, rfl, by decide +kernel, by decide +kernel⟩
theorem scRulingBy : FnScope NRg ["question", "worths"] (defScope sRulingBy) := ⟨rfl, rfl, rfl, by decide +kernel, rfl, by decide +kernel, by decide +kernel⟩
section
variable {P : Program} {w : World} {K : PySem.W.Frag} {mg : Str → Option Value} {base : Heap}
def spRuling (K : PySem.W.Frag) : Sp := fun vs H Q _ => ∃ (q pr : Addr) (head : List Str) (ats : List Atm) (ps : List (Str × V)), vs = [.ref q, .ref pr] ∧ QAt K H q head ats ∧ PricesAt H pr ats ps ∧ GoodQ ats ∧
  ∀ (H' : Hp) (r : Addr), Same H H' → H r = none → H' r = some (.tup (tabsV ats (firstN ats ps))) → Q (.ref r) H'
def spRulingBy (K : PySem.W.Frag) : Sp := fun vs H Q _ => ∃ (q pr : Addr) (head : List Str) (ats : List Atm) (ps : List (Str × V)), vs = [.ref q, .ref pr] ∧ QAt K H q head ats ∧ WorAt H pr ats ps ∧ GoodQ ats ∧
  ∀ (H' : Hp) (r : Addr), Same H H' → H r = none → H' r = some (.tup (tabsV ats (firstN ats ps))) → Q (.ref r) H'
theorem ok_rulingBy {f fU fL : Addr} {fd fdU fdL : FuncData} (F : Fun K "ruling_by" "ruling_by" sRulingBy f fd) (B : Blt mg)
    (FU : Fun K "_ruled" "_ruled" sRuled fU fdU) (bU : Binds K fdU ["question", "worths"] []) (gU : mg "_ruled" = some (.ref fU)) (GU : FnOk P w K mg base CX0 4 fU fdU ["question", "worths"] (spRuled K))
    (FL : Fun K "loose_tables" "loose_tables" sLooseT fL fdL) (bL : Binds K fdL ["question", "prices"] []) (gL : mg "loose_tables" = some (.ref fL)) (GL : FnOk P w K mg base CX0 1 fL fdL ["question", "prices"] (spLooseW K)) :
    FnOk P w K mg base CX0 5 f fd ["question", "worths"] (spRulingBy K) := by
  refine F.ok scRulingBy (fun vs H Q E h => ?_) (fun cdv A outer s H vs Q E hr h => ?_)
  · obtain ⟨q, pr, head, ats, ps, rfl, _⟩ := h
    rfl
  · obtain ⟨q, pr, head, ats, ps, rfl, hq, hp, good, fin⟩ := h
    have nd := scRulingBy.nd
    have hr1 : Room 1 _ := hr.mono (by decide)
    have hu := hu_of hr
    have dist := good.dist
    have fm := good.many
    have ll := loose_len ats ps
    have ltL : ∀ k ∈ looseN ats ps, k < ats.length := fun k hk => (mem_loose hk).1
    have ndL : (looseN ats ps).Nodup := lt_nodup (loose_asc ats ps)
    refine ⟨_, pss_cons (ps_set (i := 2) nd rfl (.inr rfl) (pe_call GU hr (by rfl) gU FU.kp bU .nil pass0 (pa_cons (pv 0) (pa_cons (pv 1) pa_nil))))
      (pss_one (ps_ret (pe_tupleOf (by rfl) B.tuple (pe_lc (own := [("table", 3)]) (g := gName 3) (tt := tNot (fun σ H Q => tDGet (tVar 2) (tVar 3) σ H fun x H' => ∃ k, TruV K x H' k ∧ Q k H')) (te := tVar 3) (by rfl) nd
          (pi_tup (pe_call GL hr1 (by rfl) gL FL.kp bL .nil pass0 (pa_cons (pv 0) (pa_cons (pv 1) pa_nil)))) (blkOk_by (own := [("table", 3)]) (N := NRg) (sc := defScope sRulingBy) (by decide +kernel))
        (fun _ _ _ _ _ => pg_name (i := 3) nd rfl (Or.inl rfl)) (fun _ _ _ _ _ => pts_one (pt_not (pt_truth (pe_dget hu (pv 2) (pv 3) (fun _ _ => rfl)) (fun _ => rfl)))) (fun _ _ _ _ _ => pv 3))))), ?_⟩
    refine ⟨_, rfl, _, rfl, q, pr, head, ats, ps, rfl, hq, hp, good, fun H1 R s1 n1 ru => ?_⟩
    refine ⟨_, rfl, _, rfl, q, pr, head, ats, ps, rfl, hq.same s1, good.few6, (hp.same s1).ls, fun H2 lo s2 n2 hlo => ?_⟩
    have ru2 := ru.same s2
    refine ⟨lo, rfl, ⟨_, SqT.of hlo⟩, fun D nD => ?_⟩
    refine walk_tup (xs := tabsV ats (looseN ats ps)) (fun k H7 => Same H2 H7 ∧ H7 D = some (.lst (tabsV ats (((looseN ats ps).take k).filter (isR ats ps))))) ⟨same_new nD, upd_same⟩ (fun k H7 _ h => SqT.of (h.1 _ _ hlo)) ?_ ?_
    · rintro k x H7 hx ⟨sm, hD⟩
      obtain ⟨j, hj, rfl⟩ := tabs_at hx
      have ftk := filter_take (isR ats ps) (looseN ats ps) k j hj
      obtain ⟨l, dg, hl⟩ := (ru2.same sm).get dist ltL ndL (List.mem_of_getElem? hj)
      refine ⟨rfl, ?_⟩
      refine ⟨_, rfl, _, rfl, R, _, rfl, dg, _, .inl ⟨_, SqL.of hl, rfl⟩, ?_⟩
      have e : (!(!(tabsV ats (rulN ats ps j)).isEmpty)) = isR ats ps j := by
        rw [Bool.not_not, empty_tabs]
        rfl
      refine notB e ?_
      cases c : isR ats ps j with
      | true =>
        rw [if_pos c] at ftk
        refine iteT ⟨_, rfl, _, hD, tabs_small (take_len (by omega)), fun b u e => ?_, ?_⟩
        · rw [upd_ne (ne_of_none e nD)]
          exact sm _ _ e
        · rw [upd_same, ftk, tabs_snoc]
      | false =>
        rw [if_neg (by rw [c]; exact Bool.false_ne_true), List.append_nil] at ftk
        refine iteF ⟨sm, ?_⟩
        rw [ftk]
        exact hD
    · rintro H7 ⟨sm, hD⟩
      have tl : (tabsV ats (looseN ats ps)).length = (looseN ats ps).length := List.length_map ..
      rw [tl, List.take_length] at hD
      have sH := (s1.trans s2).trans sm
      exact .inl ⟨D, _, rfl, SqL.of hD, fun r nr => fin _ r (sH.trans (same_new nr)) (sH.free nr) upd_same⟩
theorem ok_ruling {f fB fA : Addr} {fd fdB fdA : FuncData} (F : Fun K "ruling" "ruling" sRuling f fd)
    (FB : Fun K "ruling_by" "ruling_by" sRulingBy fB fdB) (bB : Binds K fdB ["question", "worths"] []) (gB : mg "ruling_by" = some (.ref fB)) (GB : FnOk P w K mg base CX0 5 fB fdB ["question", "worths"] (spRulingBy K))
    (FA : Fun K "_as_tuples" "_as_tuples" sAsTuples fA fdA) (bA : Binds K fdA ["prices"] []) (gA : mg "_as_tuples" = some (.ref fA)) (GA : FnOk P w K mg base CX0 1 fA fdA ["prices"] (spAsT K)) :
    FnOk P w K mg base CX0 6 f fd ["question", "prices"] (spRuling K) := by
  refine F.ok scRuling (fun vs H Q E h => ?_) (fun cdv A outer s H vs Q E hr h => ?_)
  · obtain ⟨q, pr, head, ats, ps, rfl, _⟩ := h
    rfl
  · obtain ⟨q, pr, head, ats, ps, rfl, hq, hp, good, fin⟩ := h
    have nd := scRuling.nd
    have hr1 : Room 1 _ := hr.mono (by decide)
    refine ⟨_, pss_one (ps_ret (pe_call GB hr (by rfl) gB FB.kp bB .nil pass0 (pa_cons (pv 0) (pa_cons (pe_call GA hr1 (by rfl) gA FA.kp bA .nil pass0 (pa_cons (pv 1) pa_nil)) pa_nil)))), ?_⟩
    refine ⟨_, rfl, _, rfl, pr, ats, ps, rfl, hp, good, fun H1 D s1 n1 wo => ?_⟩
    exact ⟨q, D, head, ats, ps, rfl, hq.same s1, wo, good, fun H2 r s2 n2 h2 => fin H2 r (s1.trans s2) (s1.free n2) h2⟩
end
end Cut
set_option Elab.async false
set_option linter.all false
set_option maxRecDepth 100000
set_option maxHeartbeats 8000000
namespace Cut
open PySem PySem.Spec PyProof.Rows L2
/-! ### a tuple read from its end -/
section
variable {prog : Program} {w : World} {A : Around} {E : Value → Shared → Prop} {s : Shared}
theorem adjust_rev (n : Nat) : Builtin.Slice.sliceAdjust none none (-1) (n : Int) = ((n : Int) - 1, -1) := by
  unfold Builtin.Slice.sliceAdjust
  simp
theorem places_rev (n : Nat) : Builtin.Slice.slicePlaces ((n : Int) - 1) (-1) (-1) = n := by
  unfold Builtin.Slice.slicePlaces
  have h : ¬ ((-1 : Int) > 0) := by decide
  rw [if_neg h]
  by_cases c : (n : Int) - 1 > -1
  · rw [if_pos c, show (- -1 : Int) = 1 by decide, Int.ediv_one]
    omega
  · rw [if_neg c]
    omega
theorem rev_applied {sl : Addr} {vl vu vs : Value} {n : Nat} {Q : Int × Int × Nat → Shared → Prop} (hs : s.heap.IsSliceOf sl vl vu vs) (pl : IsPart vl none) (pu : IsPart vu none) (ps : IsPart vs (some (-1)))
    (h : Q ((n : Int) - 1, -1, n) s) : wpAny (model prog w) A (Builtin.Slice.sliceApplied (.ref sl) (pure (n : Int))) Q E s := by
  obtain ⟨os, g1, g2, g3⟩ := hs
  unfold Builtin.Slice.sliceApplied Builtin.Slice.sliceFields
  have fld : ∀ {Q' : Value × Value × Value → Shared → Prop}, Q' (vl, vu, vs) s → wpAny (model prog w) A (do return (← field (.ref sl) 0, ← field (.ref sl) 1, ← field (.ref sl) 2)) Q' E s := fun {Q'} q =>
    wpAny_bind (wpAny_field g1 g3 (x := vl) rfl (wpAny_bind (wpAny_field g1 g3 (x := vu) rfl (wpAny_bind (wpAny_field g1 g3 (x := vs) rfl (wpAny_pure q))))))
  refine wpAny_bind (fld ?_)
  refine wpAny_bind (HT.slicePart_ ps ?_)
  show wpAny _ _ (if ((-1 : Int) == 0) = true then _ else _) _ _ s
  rw [if_neg (by decide)]
  refine wpAny_bind (HT.slicePart_ pl ?_)
  refine wpAny_bind (HT.slicePart_ pu ?_)
  refine wpAny_bind (wpAny_pure ?_)
  show wpAny _ _ (match Builtin.Slice.sliceAdjust none none (-1) (n : Int) with | (lo, hi) => pure (lo, (-1 : Int), Builtin.Slice.slicePlaces lo hi (-1))) _ _ s
  rw [adjust_rev]
  show wpAny _ _ (pure ((n : Int) - 1, (-1 : Int), Builtin.Slice.slicePlaces ((n : Int) - 1) (-1) (-1))) _ _ s
  rw [places_rev]
  exact wpAny_pure h
theorem fm_congr {α β : Type} {f g : α → Option β} : ∀ {l : List α}, (∀ x ∈ l, f x = g x) → l.filterMap f = l.filterMap g
  | [], _ => rfl
  | x :: r, h => by
    rw [List.filterMap_cons, List.filterMap_cons, h x List.mem_cons_self, fm_congr fun y hy => h y (List.mem_cons_of_mem _ hy)]
theorem pick_rev (xs : Array Value) : ((List.range xs.size).filterMap fun (m : Nat) => xs[((xs.size : Int) - 1 + (m : Int) * -1).toNat]?).toArray = xs.toList.reverse.toArray := by
  congr 1
  have e : (List.range xs.size).filterMap (fun (m : Nat) => xs[((xs.size : Int) - 1 + (m : Int) * -1).toNat]?) = ((List.range xs.size).map fun k => xs.size - 1 - k).filterMap (xs[·]?) := by
    rw [List.filterMap_map]
    refine fm_congr fun m hm => ?_
    have := List.mem_range.mp hm
    show xs[((xs.size : Int) - 1 + (m : Int) * -1).toNat]? = xs[xs.size - 1 - m]?
    congr 1
    omega
  rw [e, PySem.W.krv_range, List.filterMap_reverse, PySem.W.krv_all]
theorem getItem_rev {t sl : Addr} {items : Array Value} {vl vu vs : Value} {Q : Value → Shared → Prop} (ht : IsTup s.heap t items) (hs : s.heap.IsSliceOf sl vl vu vs) (pl : IsPart vl none) (pu : IsPart vu none) (ps : IsPart vs (some (-1))) (hsz : items.size ≤ sizeLine)
    (h : Q (.ref s.heap.objs.size) { s with heap := s.heap.push { cls := .type "tuple", data := .seq items.toList.reverse.toArray } }) : wpAny (model prog w) A (getItem (.ref t) (.ref sl)) Q E s := by
  have hok : sizeOk (.seq items.toList.reverse.toArray) := by
    show items.toList.reverse.toArray.size ≤ sizeLine
    rw [List.size_toArray, List.length_reverse, Array.length_toList]
    exact hsz
  have isSl : s.TypeIs (.ref sl) "slice" := let ⟨os, g1, g2, _⟩ := hs; ⟨os, g1, g2⟩
  unfold getItem
  refine wpAny_holding ?_
  refine wpAny_bind (wpAny_sequenceKey ht.typeIs (by decide) ?_)
  have slot := PyProof.Rows.slot_tuple_getitem
  refine wpAny_bind (wpAny_callSpecial?_slot (name := Str.ofString "__getitem__") ht.typeIs slot (wpAny_call_entry slot ht.typeIs entry_tuple_getitem ?_ (args_tuple_getitem _ _)))
  show wpAny _ _ (do let xs ← Builtin.Tuple.tupleItemsOf (.ref t); _) _ _ s
  refine wpAny_bind (tupleItemsOf_ ht (wpAny_bind (wpAny_typeOf isSl ?_)))
  rw [if_pos (by decide)]
  refine wpAny_bind (rev_applied hs pl pu ps ?_)
  have no : ¬ (((items.size : Int) - 1 == 0 && (-1 : Int) == 1 && items.size == items.size) = true) := by
    intro q
    rw [Bool.and_eq_true, Bool.and_eq_true] at q
    exact absurd (eq_of_beq q.1.2) (by decide)
  show wpAny _ _ (if ((items.size : Int) - 1 == 0 && (-1 : Int) == 1 && items.size == items.size) = true then _ else _) _ _ s
  rw [if_neg no, pick_rev]
  have fin : ∀ {Q' : Value → Shared → Prop} {A' : Around}, Q' (.ref s.heap.objs.size) { s with heap := s.heap.push { cls := .type "tuple", data := .seq items.toList.reverse.toArray } } → wpAny (model prog w) A' (Builtin.Tuple.tupleExact items.toList.reverse.toArray) Q' E s := fun q => wpAny_newObj_type q hok
  exact wpAny_bind (fin (wpAny_pure ⟨_, rfl, wpAny_pure h⟩))
end
section
variable {X : Cx} {e : Expr} {te : TE} {k : Nat} {p1 p2 p3 pos : Pos}
def tRevT (K : PySem.W.Frag) (te : TE) : TE := fun σ H Q => te σ H fun x H1 => ∃ a xs, x = .ref a ∧ SqT K H1 a xs ∧ ∀ p, H1 p = none → Q (.ref p) (upd H1 p (.tup xs.reverse))
theorem pe_revT (he : PE X e te) : PE X (.Subscript e (.Slice none none (some (.UnaryOp .USub (.Constant (.int 1) k p1) p2)) p3) pos) (tRevT X.K te) := by
  refine ⟨fun pins s σ H Q I h => ?_⟩
  refine Subscript_ (thn (he.run pins s σ H _ I h) fun v s1 ⟨x, H1, I1, r1, q1⟩ => ?_)
  obtain ⟨a, xs, rfl, hx, q⟩ := q1
  cases r1
  have step : PO X (some (.UnaryOp .USub (.Constant (.int 1) k p1) p2)) (tPart (tUn (rU fun i => .int (-i)) (tC (.int 1)))) := po_some (pe_un un_neg pe_int)
  refine wpAny_Slice (thn (po_none.run pins s1 σ H1 (fun o J => o = none ∧ J = H1) I1 ⟨rfl, rfl⟩) ?_)
  rintro vl s2 ⟨l, H2, I2, pl, rfl, rfl⟩
  refine thn (po_none.run pins s2 σ H2 (fun o J => o = none ∧ J = H2) I2 ⟨rfl, rfl⟩) ?_
  rintro vu s3 ⟨u, H3, I3, pu, rfl, rfl⟩
  refine thn (step.run pins s3 σ H3 (fun o J => o = some (-1) ∧ J = H3) I3 ⟨1, rfl, -1, rfl, rfl, rfl⟩) ?_
  rintro vs s4 ⟨o, H4, I4, ps, rfl, rfl⟩
  generalize hs5 : ({ s4 with heap := s4.heap.push { cls := .type "slice", data := .fields #[vl, vu, vs] } } : Shared) = s5
  have I5 : Inv X pins σ H4 s5 := by rw [← hs5]; exact I4.kept (t' := s4.toks) fun b ob q => Heap.get?_push_of_some _ q
  have sl5 : s5.heap.IsSliceOf s4.heap.objs.size vl vu vs := by rw [← hs5]; exact Heap.IsSliceOf.new _ vl vu vs
  obtain ⟨its, r, ht, hz⟩ := I5.tuple hx
  have hlen := r.length
  change wpAny _ _ (subscriptTail e _ (Value.ref a) (Value.ref s4.heap.objs.size)) _ _ s5
  refine tail_any (ops := [.ref a, .ref s4.heap.objs.size]) ht.typeIs PyProof.Rows.slot_tuple_getitem.lookup ?_ (by with_unfolding_all rfl)
  refine getItem_rev ht sl5 pl pu ps (by rw [List.size_toArray]; omega) ?_
  refine ⟨.ref _, _, I5.laid (t' := s5.toks) (o := .tup xs.reverse) (fun b ob q => Heap.get?_push_of_some _ q) (Nat.le_refl _) ?_, rfl, q _ (I5.hok.fresh (Nat.le_refl _))⟩
  exact ⟨by rw [List.length_reverse]; exact hz, its.reverse, r.reverse, IsTup.new _ _⟩
end
end Cut
set_option Elab.async false
set_option linter.all false
set_option maxRecDepth 100000
set_option maxHeartbeats 8000000
namespace Cut
open PySem PySem.Spec PyProof.Rows L2
/-! ### the law's own def: what it can call, what it looks at -/
def forBody : Stmt → List Stmt
  | .For _ _ b _ _ => b
  | _ => []
/-- a def under its name -/
def Can (P : Program) (w : World) (K : PySem.W.Frag) (mg : Str → Option Value) (base : Heap) (x : Str) (ps : List Str) (k : Nat) (sp : Sp) : Prop :=
  ∃ (f : Addr) (fd : FuncData), mg x = some (.ref f) ∧ PySem.W.keepIn K (.ref f) = true ∧ L2.Binds K fd ps [] ∧ FnOk P w K mg base CX0 k f fd ps sp
def CanG (P : Program) (w : World) (K : PySem.W.Frag) (mg : Str → Option Value) (base : Heap) (x : Str) (ps : List Str) (k : Nat) (sp : Sp) : Prop :=
  ∃ (f : Addr) (fd : FuncData), mg x = some (.ref f) ∧ PySem.W.keepIn K (.ref f) = true ∧ L2.Binds K fd ps [] ∧ FnG P w K mg base CX0 k f fd ps sp
section
variable {X : Cx} {x : Str} {ps : List Str} {k : Nat} {sp : Sp} {p pos : Pos} {e : Expr} {es : List Expr} {t : TA}
theorem pe_can (c : Can X.prog X.w X.K X.mg X.base x ps k sp) (hr : Room k X.A) (hg : Gl X x) (ha : PA X (e :: es) t) (hdb : (x == ("__debug__" : Str)) = false := by decide)
    (he : starEach (e :: es) X.env = (false, eval e X.env) :: starEach es X.env := by rfl) (hpl : (backTo pos (starEach es X.env)).any (·.1) = false := by rfl) : PE X (.Call (.Name x p) (e :: es) [] pos) (tCall sp [] E0 t) :=
  let ⟨_, _, gm, kp, b, F⟩ := c; pe_call F hr hg gm kp b .nil pass0 ha hdb he hpl
theorem pe_canG (c : CanG X.prog X.w X.K X.mg X.base x ps k sp) (hgd : Gd X.A) (hr : Room k X.A) (hg : Gl X x) (ha : PA X (e :: es) t) (hdb : (x == ("__debug__" : Str)) = false := by decide)
    (he : starEach (e :: es) X.env = (false, eval e X.env) :: starEach es X.env := by rfl) (hpl : (backTo pos (starEach es X.env)).any (·.1) = false := by rfl) : PE X (.Call (.Name x p) (e :: es) [] pos) (tCall sp [] E0 t) :=
  let ⟨_, _, gm, kp, b, F⟩ := c; pe_callG F hgd hr hg gm kp b pass0 ha hdb he hpl
end
/-! #### data -/
theorem flats_of : ∀ {ds : List PyData}, (∀ d ∈ ds, flatD d = true) → flatDs ds = true
  | [], _ => by simp [flatDs]
  | d :: r, h => by
    simp only [flatDs, Bool.and_eq_true]
    exact ⟨h d List.mem_cons_self, flats_of fun e he => h e (List.mem_cons_of_mem _ he)⟩
theorem flat_tup {ds : List PyData} (h : ∀ d ∈ ds, flatD d = true) : flatD (.tuple ds) = true := by
  simp only [flatD]
  exact flats_of h
theorem flat_q (head : List Str) (ats : List Atm) : flatD (qD head ats) = true := by
  refine flat_tup fun d hd => ?_
  simp only [List.mem_cons, List.not_mem_nil, or_false] at hd
  rcases hd with rfl | rfl
  · refine flat_tup fun d hd => ?_
    obtain ⟨x, _, rfl⟩ := List.mem_map.mp hd
    simp [flatD]
  · refine flat_tup fun d hd => ?_
    obtain ⟨t, _, rfl⟩ := List.mem_map.mp hd
    refine flat_tup fun d hd => ?_
    simp only [List.mem_cons, List.not_mem_nil, or_false] at hd
    rcases hd with rfl | rfl
    · simp [flatD]
    · refine flat_tup fun d hd => ?_
      obtain ⟨k, _, rfl⟩ := List.mem_map.mp hd
      cases k <;> simp [dK, flatD]
def qpD (ats : List Atm) (ps : List (Str × V)) : PyData := .list [qD [] ats, .dict (itemsD (pD ps))]
theorem txts_told {xss : List (List Str)} (h : ∀ xs ∈ xss, (∀ x ∈ xs, x ∈ NM) ∧ xs.length ≤ 6) (l : xss.length ≤ 10) : Told (.tuple (xss.map tD)) := by
  have f := (txts_fit h).tup
  exact f.told (by decide) (by omega)
theorem tD_told {xs : List Str} (h : ∀ x ∈ xs, x ∈ NM) (l : xs.length ≤ 6) : Told (tD xs) := (tD_fit h l).told (by decide) (by decide)
theorem PricesAt.nm {H : Hp} {d : Addr} {ats : List Atm} {ps : List (Str × V)} (x : PricesAt H d ats ps) (g : GoodQ ats) : (∀ p ∈ ps, okV p.2 ∧ p.1 ∈ NM) ∧ ps.length ≤ 6 := by
  refine ⟨fun p hp => ⟨x.ok p hp, ?_⟩, ?_⟩
  · obtain ⟨t, ht, e⟩ := List.mem_map.mp (x.perm.mem_iff.mp (List.mem_map.mpr ⟨p, hp, rfl⟩))
    rw [← e]
    exact tb_nm (g.tabs t ht)
  · have := x.perm.length_eq
    rw [List.length_map, List.length_map] at this
    have := g.many
    omega
end Cut
set_option Elab.async false
set_option linter.all false
set_option maxRecDepth 100000
set_option maxHeartbeats 4000000
namespace Cut
open PySem PySem.Spec PyProof.Rows L2
/-! ### permutations(list): all orders of a list, as the library makes them -/
abbrev pT : String := "itertools.permutations"
theorem mro_pm : mroOf (.type pT) = pure [.type pT, .type "object"] := by rw [mroOf_type]; kernel_rfl
theorem new_pm : typeLookup (.type pT) "__new__" = pure (some (.builtin "itertools.permutations.__new__")) := by rw [typeLookup_type, builtinLookup_eq_fast]; kernel_rfl
theorem init_pm : Slot pT "__init__" "object.__init__" :=
  .of (owner := "object") (n := "__init__") (by rw [typeLookup_type, builtinLookup_eq_fast]; kernel_rfl) (by decide +kernel) (by decide +kernel) (by decide +kernel) (by first | exact .inl (by decide +kernel) | exact .inr (by decide +kernel)) (by rw [isSubtype_type]; kernel_rfl)
theorem sub_pm : isSubtype (.type pT) (.type pT) = pure true := by rw [isSubtype_type]; kernel_rfl
theorem called_pm : TypeCalled pT "itertools.permutations.__new__" "object.__init__" :=
  ⟨by decide +kernel, by decide +kernel, ⟨_, _, mro_pm⟩, madeBy_type mro_pm new_pm (by decide +kernel), by decide +kernel, sub_pm, init_pm⟩
theorem tcall_pm (a : Value) : checkTypeCall pT ⟨[a], []⟩ = pure () := by kernel_rfl
theorem ncall_pm (a : Value) : checkBuiltinCall "itertools.permutations.__new__" ⟨[.type pT, a], []⟩ = pure () := by kernel_rfl
theorem enew_pm : entryFor table "itertools.permutations.__new__" = some Builtin.«itertools.permutations.__new__» := entryFor_of_tree (by kernel_rfl)
theorem iter_pm : Slot pT "__iter__" "itertools.permutations.__iter__" :=
  .of (owner := pT) (n := "__iter__") (by rw [typeLookup_type, builtinLookup_eq_fast]; kernel_rfl) (by decide +kernel) (by decide +kernel) (by decide +kernel) (by first | exact .inl (by decide +kernel) | exact .inr (by decide +kernel)) sub_pm
theorem next_pm : Slot pT "__next__" "itertools.permutations.__next__" :=
  .of (owner := pT) (n := "__next__") (by rw [typeLookup_type, builtinLookup_eq_fast]; kernel_rfl) (by decide +kernel) (by decide +kernel) (by decide +kernel) (by first | exact .inl (by decide +kernel) | exact .inr (by decide +kernel)) sub_pm
theorem eiter_pm : entryFor table "itertools.permutations.__iter__" = some Builtin.«dict_keyiterator.__iter__» :=
  entryFor_alias (id' := "dict_keyiterator.__iter__") (by kernel_rfl) (by first | rfl | decide +kernel | (unfold String.splitOn; simp +decide [String.splitOnAux])) (by decide +kernel) (by kernel_rfl)
theorem enext_pm : entryFor table "itertools.permutations.__next__" = some Builtin.«itertools.permutations.__next__» := entryFor_of_tree (by kernel_rfl)
theorem nodict_pm : typeHasDict (.type pT) = false := by decide +kernel
/-- the next order, as the library finds it -/
def nextP (n : Nat) : Nat → List Nat → List Nat → Option (List Nat × List Nat)
  | 0, _, _ => none
  | i + 1, ix, cy => if cy.getD i 0 - 1 == 0 then nextP n i (ix.take i ++ ix.drop (i + 1) ++ [ix.getD i 0]) (cy.set i (n - i)) else some ((ix.set i (ix.getD (n - (cy.getD i 0 - 1)) 0)).set (n - (cy.getD i 0 - 1)) (ix.getD i 0), cy.set i (cy.getD i 0 - 1))
theorem pm_next : ∃ nx : Nat → Nat → List Nat → List Nat → Option (List Nat × List Nat), (∀ n ix cy, nx n 0 ix cy = none) ∧
    (∀ n i ix cy, nx n (i + 1) ix cy = if cy.getD i 0 - 1 == 0 then nx n i (ix.take i ++ ix.drop (i + 1) ++ [ix.getD i 0]) (cy.set i (n - i)) else some ((ix.set i (ix.getD (n - (cy.getD i 0 - 1)) 0)).set (n - (cy.getD i 0 - 1)) (ix.getD i 0), cy.set i (cy.getD i 0 - 1))) ∧
    ∀ args, Builtin.«itertools.permutations.__next__» args = (do
      let (self, _) ← slotArgs "__next__" 0 args
      let items ← Builtin.Itertools.itPoolItems (← field self 0)
      let n := items.size
      let r := (← Builtin.Itertools.itIntField self 2).toNat
      let numbers ← Builtin.Itertools.itNumbersFrom self 4
      let result (indices : List Nat) : Sem Fin := do
        let t ← newTuple ((indices.take r).map fun i => items.getD i .none)
        let before ← field self 3
        setField self 3 t
        letGo [before] [t]
        ret t
      match ← Builtin.Itertools.itIntField self 1 with
      | 0 => setField self 1 (rawInt 1); result numbers
      | 1 =>
        match nx n r (numbers.take n) (numbers.drop n) with
        | some (indices, cycles) => Builtin.Itertools.itSetNumbersFrom self 4 (indices ++ cycles); result indices
        | none => setField self 1 (rawInt 2); Builtin.Itertools.itStop
      | _ => rule "itertools.permutations.ended"; Builtin.Itertools.itStop) := by
  refine ⟨?nx, ?h1, ?h2, fun args => ?h3⟩
  case h3 => exact rfl
  case h1 => intro n ix cy; rfl
  case h2 => intro n i ix cy; rfl
end Cut
set_option Elab.async false
set_option linter.all false
set_option maxRecDepth 100000
set_option maxHeartbeats 4000000
namespace Cut
open PySem PySem.Spec PyProof.Rows L2
theorem owner_pm : Manifest.owners.lookup (String.ofList ['s', 'n', 'o', 'i', 't', 'a', 't', 'u', 'm', 'r', 'e', 'p', '.', 's', 'l', 'o', 'o', 't', 'r', 'e', 't', 'i'].reverse) = some Manifest.sig_itertools_permutations := by kernel_rfl
theorem aiter_pm (a : Value) : argsOk "itertools.permutations.__iter__" ⟨[a], []⟩ := by
  unfold argsOk
  rw [signature?_of (id := "itertools.permutations.__iter__") (n := ['_', '_', 'r', 'e', 't', 'i', '_', '_']) (o := ['s', 'n', 'o', 'i', 't', 'a', 't', 'u', 'm', 'r', 'e', 'p', '.', 's', 'l', 'o', 'o', 't', 'r', 'e', 't', 'i']) (by kernel_rfl) owner_pm]
  kernel_rfl
theorem anext_pm (a : Value) : argsOk "itertools.permutations.__next__" ⟨[a], []⟩ := by
  unfold argsOk
  rw [signature?_of (id := "itertools.permutations.__next__") (n := ['_', '_', 't', 'x', 'e', 'n', '_', '_']) (o := ['s', 'n', 'o', 'i', 't', 'a', 't', 'u', 'm', 'r', 'e', 'p', '.', 's', 'l', 'o', 'o', 't', 'r', 'e', 't', 'i']) (by kernel_rfl) owner_pm]
  kernel_rfl
def rawN (k : Nat) : Value := rawInt k
def pmF (pool : Addr) (st : Int) (r : Nat) (last : Value) (ns : List Nat) : Array Value := (Value.ref pool :: rawInt st :: rawInt r :: last :: ns.map rawN).toArray
/-- the library's own object -/
def pmObj (pool : Addr) (st : Int) (r : Nat) (last : Value) (ns : List Nat) : Obj := { cls := .type pT, dict := none, data := .fields (pmF pool st r last ns) }
theorem nums_read (pool : Addr) (st : Int) (r : Nat) (last : Value) (ns : List Nat) {F : Value → Nat} (hF : ∀ k, F (rawN k) = k) : ((pmF pool st r last ns).toList.drop 4).map F = ns := by
  unfold pmF
  simp only [List.drop_succ_cons, List.drop_zero, List.map_map]
  induction ns with
  | nil => rfl
  | cons x r ih =>
    rw [List.map_cons, ih]
    show F (rawN x) :: r = x :: r
    rw [hF]
section
variable {prog : Program} {w : World} {A : Around} {E : Value → Shared → Prop} {s : Shared} {it pool : Addr} {items : Array Value} {n : Nat} {last : Value}
theorem pm_iter {st : Int} {ns : List Nat} {Q : Value → Shared → Prop} (hit : s.heap.get? it = some (pmObj pool st n last ns)) (h : Q (.ref it) s) : wpAny (model prog w) A (pyIter (.ref it)) Q E s := by
  have hT : s.TypeIs (.ref it) pT := ⟨_, hit, rfl⟩
  refine wpAny_pyIter_slot hT iter_pm (wpAny_call_entry iter_pm hT eiter_pm ?_ (aiter_pm _))
  change wpAny _ _ (ret (Value.ref it)) _ _ s
  exact wpAny_pure ⟨_, rfl, pT, _, hT, next_pm.lookup, h⟩
/-- the beginning of a turn: what is read -/
theorem pm_read {st : Int} {ns : List Nat} {R : PySem.Fin → Shared → Prop} (hit : s.heap.get? it = some (pmObj pool st n last ns)) (hp : s.heap.get? pool = some { cls := .type "tuple", data := .seq items }) (hst : st = 0 ∨ st = 1)
    (zero : st = 0 → wpAny (model prog w) A (do
      setField (.ref it) 1 (rawInt 1)
      let t ← newTuple ((ns.take n).map fun i => items.getD i .none)
      let before ← field (.ref it) 3
      setField (.ref it) 3 t
      letGo [before] [t]
      ret t) R E s)
    (more : ∀ ix cy, st = 1 → nextP items.size n (ns.take items.size) (ns.drop items.size) = some (ix, cy) → wpAny (model prog w) A (do
      Builtin.Itertools.itSetNumbersFrom (.ref it) 4 (ix ++ cy)
      let t ← newTuple ((ix.take n).map fun i => items.getD i .none)
      let before ← field (.ref it) 3
      setField (.ref it) 3 t
      letGo [before] [t]
      ret t) R E s)
    (over : st = 1 → nextP items.size n (ns.take items.size) (ns.drop items.size) = none → wpAny (model prog w) A (do
      setField (.ref it) 1 (rawInt 2)
      Builtin.Itertools.itStop) R E s) : wpAny (model prog w) A (Builtin.«itertools.permutations.__next__» ⟨[.ref it], []⟩) R E s := by
  obtain ⟨nx, e0, e1, e2⟩ := pm_next
  have nxe : ∀ n i ix cy, nx n i ix cy = nextP n i ix cy := fun n i => by
    induction i with
    | zero => intro ix cy; rw [e0]; rfl
    | succ i ih => intro ix cy; rw [e1]; unfold nextP; rw [ih]
  rw [e2]
  show wpAny _ _ (field (.ref it) 0 >>= _) _ _ s
  refine wpAny_bind (wpAny_field hit rfl (x := .ref pool) (by rfl) ?_)
  show wpAny _ _ ((do
    let some xs ← seqItems? (.ref pool) | unsupported "internal:itertools.pool"
    return xs) >>= _) _ _ s
  refine wpAny_bind ?_
  show wpAny _ _ (seqItems? (.ref pool) >>= _) _ _ s
  refine wpAny_bind ?_
  show wpAny _ _ (load pool >>= _) _ _ s
  refine wpAny_bind (wpAny_load hp (wpAny_pure (wpAny_pure ?_)))
  show wpAny _ _ ((field (.ref it) 2 >>= _) >>= _) _ _ s
  refine wpAny_bind (wpAny_bind (wpAny_field hit rfl (x := rawInt n) (by rfl) (wpAny_pure ?_)))
  show wpAny _ _ ((load it >>= _) >>= _) _ _ s
  refine wpAny_bind (wpAny_bind (wpAny_load hit (wpAny_pure ?_)))
  rw [nums_read (hF := ?hF)]
  case hF => exact fun k => Int.toNat_natCast k
  rw [Int.toNat_natCast]
  show wpAny _ _ ((field (.ref it) 1 >>= _) >>= _) _ _ s
  refine wpAny_bind (wpAny_bind (wpAny_field hit rfl (x := rawInt st) (by rfl) (wpAny_pure ?_)))
  rcases hst with rfl | rfl
  · exact zero rfl
  · show wpAny _ _ (match nx items.size n (ns.take items.size) (ns.drop items.size) with
      | some (ix, cy) => _
      | none => _) _ _ s
    rw [nxe]
    cases hx : nextP items.size n (ns.take items.size) (ns.drop items.size) with
    | none => exact over rfl hx
    | some p => exact more p.1 p.2 rfl hx
end
end Cut
set_option Elab.async false
set_option linter.all false
set_option maxRecDepth 100000
set_option maxHeartbeats 4000000
namespace Cut
open PySem PySem.Spec PyProof.Rows L2
section
variable {prog : Program} {w : World} {A : Around} {E : Value → Shared → Prop} {s : Shared} {it pool : Addr} {items : Array Value} {n : Nat} {last : Value}
theorem pm_set1 {st : Int} {ns : List Nat} {h : Heap} (hit : h.get? it = some (pmObj pool st n last ns)) : (h.update it (Obj.mapFields (·.setIfInBounds 1 (rawInt 1)))).get? it = some (pmObj pool 1 n last ns) := by
  have := Heap.get?_update_self (Obj.mapFields (·.setIfInBounds 1 (rawInt 1))) hit rfl
  rw [this]
  rfl
theorem pm_set3 {st : Int} {ns : List Nat} {h : Heap} {v : Value} (hit : h.get? it = some (pmObj pool st n last ns)) : (h.update it (Obj.mapFields (·.setIfInBounds 3 v))).get? it = some (pmObj pool st n v ns) := by
  have := Heap.get?_update_self (Obj.mapFields (·.setIfInBounds 3 v)) hit rfl
  rw [this]
  rfl
theorem pm_setN {st : Int} {ns ms : List Nat} {h : Heap} (hit : h.get? it = some (pmObj pool st n last ns)) : (h.update it (Obj.mapFields fun fs => fs.extract 0 4 ++ (ms.map fun (k : Nat) => rawInt k).toArray)).get? it = some (pmObj pool st n last ms) := by
  have := Heap.get?_update_self (Obj.mapFields fun fs => fs.extract 0 4 ++ (ms.map fun (k : Nat) => rawInt k).toArray) hit rfl
  rw [this]
  have e : (pmF pool st n last ns).extract 0 4 ++ (ms.map fun (k : Nat) => rawInt k).toArray = pmF pool st n last ms := by
    refine Array.toList_inj.mp ?_
    unfold pmF
    simp [rawN]
  show some ({ cls := .type pT, dict := none, data := .fields ((pmF pool st n last ns).extract 0 4 ++ (ms.map fun (k : Nat) => rawInt k).toArray) } : Obj) = _
  rw [e]
  rfl
theorem pm_tail {ix ns : List Nat} {R : PySem.Fin → Shared → Prop} (hit : s.heap.get? it = some (pmObj pool 1 n last ns)) (hl : ix.length ≤ 1000)
    (h : ∀ h' : Heap, h'.get? it = some (pmObj pool 1 n (.ref s.heap.objs.size) ns) → h'.get? s.heap.objs.size = some { cls := .type "tuple", data := .seq (ix.map fun i => items.getD i .none).toArray } → (∀ b o, b ≠ it → s.heap.get? b = some o → h'.get? b = some o) → R (.done (.ret (.ref s.heap.objs.size))) { s with heap := h' }) :
    wpAny (model prog w) A (do
      let t ← newTuple (ix.map fun i => items.getD i .none)
      let before ← field (.ref it) 3
      setField (.ref it) 3 t
      letGo [before] [t]
      ret t) R E s := by
  have lt : it < s.heap.objs.size := Heap.lt_size hit
  refine wpAny_bind (m := newTuple _) ?_
  unfold newTuple
  refine wpAny_newObj_type ?_ (by
    show (ix.map fun i => items.getD i .none).toArray.size ≤ sizeLine
    rw [List.size_toArray, List.length_map]
    have : sizeLine = 2 ^ 24 := rfl
    omega)
  have hit2 : (s.heap.push { cls := .type "tuple", data := .seq (ix.map fun i => items.getD i .none).toArray }).get? it = some (pmObj pool 1 n last ns) := Heap.get?_push_of_some _ hit
  refine wpAny_bind (wpAny_field hit2 rfl (x := last) (by rfl) ?_)
  refine wpAny_bind (wpAny_setField hit2 rfl (by
    show 3 < (pmF pool 1 n last ns).size
    unfold pmF
    simp) ?_)
  refine wpAny_bind (wpAny_letGo ?_)
  refine wpAny_pure (h _ (pm_set3 hit2) ?_ fun b o ne e => ?_)
  · rw [Heap.get?_update_other _ _ (Nat.ne_of_lt lt)]
    exact Heap.get?_push_size _ rfl
  · rw [Heap.get?_update_other _ _ ne.symm]
    exact Heap.get?_push_of_some _ e
end
end Cut
set_option Elab.async false
set_option linter.all false
set_option maxRecDepth 100000
set_option maxHeartbeats 4000000
namespace Cut
open PySem PySem.Spec PyProof.Rows L2
section
variable {prog : Program} {w : World} {A : Around} {E : Value → Shared → Prop} {s : Shared} {it pool : Addr} {items : Array Value} {n : Nat} {last : Value}
/-- what a turn that yields leaves -/
def PmDone (s : Shared) (it pool : Addr) (items : Array Value) (n : Nat) (ix ns : List Nat) (Q : Option Value → Shared → Prop) : Prop :=
  ∀ h' : Heap, h'.get? it = some (pmObj pool 1 n (.ref s.heap.objs.size) ns) → h'.get? s.heap.objs.size = some { cls := .type "tuple", data := .seq (ix.map fun i => items.getD i .none).toArray } → (∀ b o, b ≠ it → s.heap.get? b = some o → h'.get? b = some o) → Q (some (.ref s.heap.objs.size)) { s with heap := h' }
theorem fld_size {st : Int} {ns : List Nat} : 4 ≤ (pmF pool st n last ns).size := by
  unfold pmF
  simp
theorem pm_begin {ix cy : List Nat} {Q : Option Value → Shared → Prop} (hit : s.heap.get? it = some (pmObj pool 0 n last (ix ++ cy))) (hp : s.heap.get? pool = some { cls := .type "tuple", data := .seq items }) (hi : ix.length = n) (hn : n ≤ 1000)
    (hQ : PmDone s it pool items n ix (ix ++ cy) Q) : wpAny (model prog w) A (pyNext (.ref it)) Q E s := by
  have hT : s.TypeIs (.ref it) pT := ⟨_, hit, rfl⟩
  unfold pyNext
  have nm : (PySem.Str.ofString "__next__") = "__next__" := rfl
  refine wpAny_bind (wpAny_attempt (wpAny_callSpecial?_slot hT next_pm (wpAny_call_entry next_pm hT enext_pm ?_ (anext_pm _))))
  refine pm_read hit hp (.inl rfl) (fun _ => ?_) (fun _ _ z => absurd z (by decide)) (fun z => absurd z (by decide))
  refine wpAny_bind (wpAny_setField hit rfl (Nat.lt_of_lt_of_le (by decide) fld_size) ?_)
  have et : (ix ++ cy).take n = ix := by rw [← hi, List.take_left]
  rw [et]
  have sz : (s.heap.update it (Obj.mapFields fun x => x.setIfInBounds 1 (rawInt 1))).objs.size = s.heap.objs.size := (Heap.SameBut.update ..).1
  have back : ∀ b o, b ≠ it → s.heap.get? b = some o → (s.heap.update it (Obj.mapFields fun x => x.setIfInBounds 1 (rawInt 1))).get? b = some o := fun b o ne e => by
    rw [Heap.get?_update_other _ _ ne.symm]
    exact e
  have hit1 := pm_set1 hit
  generalize hh : s.heap.update it (Obj.mapFields fun x => x.setIfInBounds 1 (rawInt 1)) = h1 at sz back hit1 ⊢
  refine pm_tail (s := { s with heap := h1 }) (it := it) (pool := pool) (n := n) (last := last) hit1 (by omega) fun h' g1 g2 g3 => ?_
  refine ⟨_, rfl, wpAny_pure ?_⟩
  have g := hQ h'
  have sz : ({ s with heap := h1 } : Shared).heap.objs.size = s.heap.objs.size := sz
  rw [sz] at g1 g2 ⊢
  exact g g1 g2 fun b o ne e => g3 b o ne (back b o ne e)
theorem pm_more {ix cy ix' cy' : List Nat} {Q : Option Value → Shared → Prop} (hit : s.heap.get? it = some (pmObj pool 1 n last (ix ++ cy))) (hp : s.heap.get? pool = some { cls := .type "tuple", data := .seq items }) (sz0 : items.size = n) (hi : ix.length = n) (hi' : ix'.length = n) (hn : n ≤ 1000)
    (hc : cy'.length ≤ 1000) (nx : nextP n n ix cy = some (ix', cy')) (hQ : PmDone s it pool items n ix' (ix' ++ cy') Q) : wpAny (model prog w) A (pyNext (.ref it)) Q E s := by
  have hT : s.TypeIs (.ref it) pT := ⟨_, hit, rfl⟩
  unfold pyNext
  refine wpAny_bind (wpAny_attempt (wpAny_callSpecial?_slot hT next_pm (wpAny_call_entry next_pm hT enext_pm ?_ (anext_pm _))))
  have et : (ix ++ cy).take items.size = ix := by rw [sz0, ← hi, List.take_left]
  have ed : (ix ++ cy).drop items.size = cy := by rw [sz0, ← hi, List.drop_left]
  refine pm_read hit hp (.inr rfl) (fun z => absurd z (by decide)) (fun a b _ z => ?_) (fun _ z => ?_)
  · rw [et, ed, sz0, nx] at z
    cases z
    refine wpAny_bind (m := Builtin.Itertools.itSetNumbersFrom (.ref it) 4 (ix' ++ cy')) ?_
    show wpAny _ _ (updateFields it fun fs => fs.extract 0 4 ++ ((ix' ++ cy').map fun (k : Nat) => rawInt k).toArray) _ _ s
    refine wpAny_updateFields hit rfl ?_ ?_
    · have sz : (s.heap.update it (Obj.mapFields fun fs => fs.extract 0 4 ++ ((ix' ++ cy').map fun (k : Nat) => rawInt k).toArray)).objs.size = s.heap.objs.size := (Heap.SameBut.update ..).1
      have back : ∀ b o, b ≠ it → s.heap.get? b = some o → (s.heap.update it (Obj.mapFields fun fs => fs.extract 0 4 ++ ((ix' ++ cy').map fun (k : Nat) => rawInt k).toArray)).get? b = some o := fun b o ne e => by
        rw [Heap.get?_update_other _ _ ne.symm]
        exact e
      have hit1 := pm_setN (ms := ix' ++ cy') hit
      generalize hh : s.heap.update it (Obj.mapFields fun fs => fs.extract 0 4 ++ ((ix' ++ cy').map fun (k : Nat) => rawInt k).toArray) = h1 at sz back hit1 ⊢
      have e2 : ix'.take n = ix' := by rw [← hi', List.take_length]
      rw [e2]
      refine pm_tail (s := { s with heap := h1 }) (it := it) (pool := pool) (n := n) (last := last) hit1 (by omega) fun h' g1 g2 g3 => ?_
      refine ⟨_, rfl, wpAny_pure ?_⟩
      have g := hQ h'
      have sz : ({ s with heap := h1 } : Shared).heap.objs.size = s.heap.objs.size := sz
      rw [sz] at g1 g2 ⊢
      exact g g1 g2 fun b o ne e => g3 b o ne (back b o ne e)
    · show ((pmF pool 1 n last (ix ++ cy)).extract 0 4 ++ ((ix' ++ cy').map fun (k : Nat) => rawInt k).toArray).size ≤ sizeLine + 3
      simp only [Array.size_append, List.size_toArray, List.length_map, List.length_append, Array.size_extract]
      have : sizeLine = 2 ^ 24 := rfl
      omega
  · rw [et, ed, sz0, nx] at z
    cases z
theorem pm_over {ix cy : List Nat} {Q : Option Value → Shared → Prop} (hh : A.handled = none) (hit : s.heap.get? it = some (pmObj pool 1 n last (ix ++ cy))) (hp : s.heap.get? pool = some { cls := .type "tuple", data := .seq items }) (sz0 : items.size = n) (hi : ix.length = n)
    (nx : nextP n n ix cy = none) (hQ : ∀ h', Heap.ExtBut it s.heap h' → Q none { s with heap := h' }) : wpAny (model prog w) A (pyNext (.ref it)) Q E s := by
  have hT : s.TypeIs (.ref it) pT := ⟨_, hit, rfl⟩
  unfold pyNext
  refine wpAny_bind (wpAny_attempt (wpAny_callSpecial?_slot hT next_pm (wpAny_call_entry next_pm hT enext_pm ?_ (anext_pm _))))
  have et : (ix ++ cy).take items.size = ix := by rw [sz0, ← hi, List.take_left]
  have ed : (ix ++ cy).drop items.size = cy := by rw [sz0, ← hi, List.drop_left]
  refine pm_read hit hp (.inr rfl) (fun z => absurd z (by decide)) (fun a b _ z => ?_) (fun _ _ => ?_)
  · rw [et, ed, sz0, nx] at z
    cases z
  · refine wpAny_bind (wpAny_setField hit rfl (Nat.lt_of_lt_of_le (by decide) fld_size) ?_)
    unfold Builtin.Itertools.itStop
    refine wpAny_bind (m := newExc (.type "StopIteration") []) ?_
    unfold newExc newTuple
    refine wpAny_bind (wpAny_newObj_type ?_ (by size_fits))
    refine wpAny_bind (m := firstArgMember (.type "StopIteration") _) ?_
    refine wpAny_of_eq (a := Value.none) (by unfold firstArgMember; rfl) ?_
    refine wpAny_newObj_type ?_ (by size_fits)
    unfold raiseNew
    refine wpAny_bind (wpAny_handled ?_)
    have hh1 : A.in1.handled = none := hh
    rw [hh1]
    refine wpAny_bind (wpAny_pure (wpAny_throw ?_))
    refine wpAny_bind (wpAny_isInstance (b := true) (T := "StopIteration") ⟨_, Heap.get?_push_size _ rfl, rfl⟩ isSubtype_stop ?_)
    exact wpAny_pure (hQ _ (((Heap.SameBut.update ..).extBut.push _).push _))
end
end Cut
set_option Elab.async false
set_option linter.all false
set_option maxRecDepth 100000
set_option maxHeartbeats 4000000
namespace Cut
open PySem PySem.Spec PyProof.Rows L2
abbrev PmS := List Nat × List Nat
def runP (n : Nat) : Nat → PmS → List PmS
  | 0, _ => []
  | k + 1, s => s :: match nextP n n s.1 s.2 with
    | none => []
    | some s' => runP n k s'
def startP (n : Nat) : PmS := (List.range n, (List.range n).map fun i => n - i)
/-- all states of the library's object, one behind the other -/
def ordersP (n : Nat) : List PmS := runP n 720 (startP n)
def chainP (n : Nat) : List PmS → Bool
  | [] => false
  | [s] => decide (nextP n n s.1 s.2 = none)
  | s :: s' :: r => decide (nextP n n s.1 s.2 = some s') && chainP n (s' :: r)
/-- all orders of some things, the first ones first -/
def lexP : Nat → List Nat → List (List Nat)
  | 0, _ => [[]]
  | k + 1, xs => xs.flatMap fun x => (lexP k (xs.filter (· != x))).map (x :: ·)
def goodP (n : Nat) : Bool := chainP n (ordersP n) && decide ((ordersP n).head? = some (startP n)) && (ordersP n).all (fun s => decide (s.1.length = n) && decide (s.2.length = n) && s.1.all fun k => decide (k < n)) && decide ((ordersP n).map (·.1) = lexP n (List.range n))
theorem good_small : (List.range 7).all goodP = true := by decide +kernel
theorem good_at {n : Nat} (h : n ≤ 6) : goodP n = true := List.all_eq_true.mp good_small n (List.mem_range.mpr (by omega))
theorem chain_at {n : Nat} : ∀ {l : List PmS}, chainP n l = true → ∀ {i : Nat} {s : PmS}, l[i]? = some s → nextP n n s.1 s.2 = l[i + 1]?
  | [], h, _, _, _ => by cases h
  | [s0], h, i, s, e => by
    cases i with
    | zero =>
      cases e
      exact of_decide_eq_true h
    | succ i => cases e
  | s0 :: s1 :: r, h, i, s, e => by
    have h : (decide (nextP n n s0.1 s0.2 = some s1) && chainP n (s1 :: r)) = true := h
    rw [Bool.and_eq_true] at h
    cases i with
    | zero =>
      cases e
      exact of_decide_eq_true h.1
    | succ i => exact chain_at h.2 e
theorem orders_ok {n : Nat} (h : n ≤ 6) : chainP n (ordersP n) = true ∧ (ordersP n)[0]? = some (startP n) ∧ (∀ s ∈ ordersP n, s.1.length = n ∧ s.2.length = n ∧ ∀ k ∈ s.1, k < n) ∧ (ordersP n).map (·.1) = lexP n (List.range n) := by
  have g := good_at h
  unfold goodP at g
  simp only [Bool.and_eq_true] at g
  obtain ⟨⟨⟨g1, g2⟩, g3⟩, g4⟩ := g
  refine ⟨g1, ?_, fun s hs => ?_, of_decide_eq_true g4⟩
  · have := of_decide_eq_true g2
    rw [List.head?_eq_getElem?] at this
    exact this
  · have := List.all_eq_true.mp g3 s hs
    simp only [Bool.and_eq_true] at this
    exact ⟨of_decide_eq_true this.1.1, of_decide_eq_true this.1.2, fun k hk => of_decide_eq_true (List.all_eq_true.mp this.2 k hk)⟩
/-- the orders of the items xs, each a new tuple -/
def ordV (xs : List V) (ix : List Nat) : List V := ix.map fun k => xs.getD k .non
def Itp (xs : List V) : It :=
  ⟨fun i _ => i < (ordersP xs.length).length, fun i H x H' => ∃ T s, (ordersP xs.length)[i]? = some s ∧ x = .ref T ∧ H T = none ∧ H' = upd H T (.tup (ordV xs s.1)), fun i _ => (ordersP xs.length).length ≤ i⟩
theorem ord_vals {xs : List V} {its : List Value} (r : Vals xs its) {n : Nat} (hn : its.length = n) : ∀ {ix : List Nat}, (∀ k ∈ ix, k < n) → Vals (ordV xs ix) (ix.map fun k => its.toArray.getD k .none)
  | [], _ => .nil
  | k :: ix, h => by
    have hk : k < its.length := by rw [hn]; exact h k List.mem_cons_self
    have hx : k < xs.length := by rw [r.length]; exact hk
    obtain ⟨u, hu, ru⟩ := r.get (List.getElem?_eq_getElem hx)
    refine .cons ?_ (ord_vals r hn fun j hj => h j (List.mem_cons_of_mem _ hj))
    have e1 : xs.getD k .non = xs[k] := by rw [List.getD_eq_getElem?_getD, List.getElem?_eq_getElem hx]; rfl
    have e2 : its.toArray.getD k .none = u := by
      rw [Array.getD_eq_getD_getElem?, List.getElem?_toArray, hu]
      rfl
    show L2.RelV (xs.getD k .non) (its.toArray.getD k .none)
    rw [e1, e2]
    exact ru
/-- the state ahead of the i-th turn -/
def PmSt (it pool : Addr) (items : List Value) (n i : Nat) (h : Heap) : Prop :=
  h.get? pool = some { cls := .type "tuple", data := .seq items.toArray } ∧ pool ≠ it ∧ ∃ last s, h.get? it = some (pmObj pool (if i = 0 then 0 else 1) n last (s.1 ++ s.2)) ∧ (if i = 0 then s = startP n else (ordersP n)[i - 1]? = some s)
theorem turn_perms {P : Program} {w : World} {K : PySem.W.Frag} {tg : Expr} (it pool : Addr) {xs : List V} {items : List Value} (r : Vals xs items) (hn : xs.length ≤ 6) : Turn P w K tg (Itp xs) [it, pool] it (fun i h => PmSt it pool items xs.length i h) where
  mem := by simp
  obj := fun i h st b hb => by
    obtain ⟨hp, _, last, s, hi, _⟩ := st
    have e : b = it ∨ b = pool := by simpa using hb
    rcases e with rfl | rfl
    · exact ⟨_, hi, fun v z => by cases z⟩
    · exact ⟨_, hp, fun v z => by cases z⟩
  keep := fun i h h' st k => by
    obtain ⟨hp, ne, last, s, hi, e⟩ := st
    exact ⟨k pool (by simp) _ hp, ne, last, s, k it (by simp) _ hi, e⟩
  item := by
    intro X hP hw hK hc i pins s σ H E I hf st hg
    subst hP hw hK
    have hlen := r.length
    obtain ⟨g1, g2, g3, _⟩ := orders_ok hn
    have hg : i < (ordersP xs.length).length := hg
    obtain ⟨hp, ne, last, s0, hi, e⟩ := st
    obtain ⟨si, hsi⟩ : ∃ si, (ordersP xs.length)[i]? = some si := ⟨_, List.getElem?_eq_getElem hg⟩
    obtain ⟨l1, l2, lk⟩ := g3 si (List.mem_of_getElem? hsi)
    have size0 : items.toArray.size = xs.length := by rw [List.size_toArray]; exact hlen.symm
    have done : PmDone s it pool items.toArray xs.length si.1 (si.1 ++ si.2) (fun r s1 => ∃ u, r = some u ∧
        wpAny (model X.prog X.w) X.A (letOwnedTupleGo tg (.ref it) u) (fun _ s2 => ∃ x H', Inv X pins σ H' s2 ∧ RelV x u ∧ (Itp xs).yld i H x H' ∧ PmSt it pool items xs.length (i + 1) s2.heap ∧ ∀ b ∈ [it, pool], H' b = none) E s1) := by
      intro h' k1 k2 k3
      refine ⟨_, rfl, ?_⟩
      have lt1 : it < s.heap.objs.size := Heap.lt_size hi
      have lt2 : pool < s.heap.objs.size := Heap.lt_size hp
      have hid : ∀ b ∈ [it, pool], H b = none := fun b hb => (hf b hb).1
      obtain ⟨f0, f1, f2, f3, f4, f5⟩ := hf it (by simp)
      have new : ObjOk X.prog X.w (upd H s.heap.objs.size (.tup (ordV xs si.1))) h' s.heap.objs.size (.tup (ordV xs si.1)) := by
        refine ⟨?_, _, ord_vals r hlen.symm lk, ⟨_, k2, rfl, _, rfl⟩⟩
        show (ordV xs si.1).length ≤ sizeLine
        unfold ordV
        rw [List.length_map, l1]
        have : sizeLine = 2 ^ 24 := rfl
        omega
      have I1 : Inv X pins σ (upd H s.heap.objs.size (.tup (ordV xs si.1))) { s with heap := h' } :=
        I.turnedNew (t' := s.toks) (ch := [it]) (fun c o hb q => k3 c o (fun z => hb (by simp [z])) q) (fun b hb => by
          have : b = it := by simpa using hb
          subst this
          exact ⟨f0, f1, f2, f3, f4, f5⟩) (Nat.le_refl _) new
      refine go_of (s := { s with heap := h' }) k1 rfl rfl (by decide) ⟨.ref s.heap.objs.size, _, I1, rfl, ⟨_, si, hsi, rfl, I.hok.fresh (Nat.le_refl _), rfl⟩, ⟨k3 pool _ ne hp, ne, _, si, by rw [if_neg (Nat.succ_ne_zero i)]; exact k1, by rw [if_neg (Nat.succ_ne_zero i)]; exact hsi⟩, fun b hb => ?_⟩
      have hlt : b < s.heap.objs.size := by
        have e : b = it ∨ b = pool := by simpa using hb
        rcases e with rfl | rfl
        · exact lt1
        · exact lt2
      rw [upd_ne (Nat.ne_of_lt hlt)]
      exact hid b hb
    by_cases i0 : i = 0
    · subst i0
      rw [if_pos rfl] at hi e
      subst e
      have es : si = startP xs.length := by
        rw [g2] at hsi
        exact (Option.some.inj hsi).symm
      subst es
      exact pm_begin hi hp l1 (by omega) done
    · rw [if_neg i0] at hi e
      obtain ⟨p1, p2, _⟩ := g3 s0 (List.mem_of_getElem? e)
      have nx := chain_at g1 e
      have ei : i - 1 + 1 = i := by omega
      rw [ei, hsi] at nx
      exact pm_more hi hp size0 p1 l1 (by omega) (by omega) nx done
  done := by
    intro X hP hw hK hc i pins s σ H E I hf st hg
    subst hP hw hK
    have hlen := r.length
    obtain ⟨g1, g2, g3, _⟩ := orders_ok hn
    have hg : (ordersP xs.length).length ≤ i := hg
    obtain ⟨hp, ne, last, s0, hi, e⟩ := st
    obtain ⟨f0, f1, f2, f3, f4, f5⟩ := hf it (by simp)
    have size0 : items.toArray.size = xs.length := by rw [List.size_toArray]; exact hlen.symm
    have i0 : i ≠ 0 := fun z => by
      have := (List.getElem?_eq_some_iff.mp g2).1
      omega
    rw [if_neg i0] at hi e
    obtain ⟨p1, p2, _⟩ := g3 s0 (List.mem_of_getElem? e)
    have nx := chain_at g1 e
    rw [List.getElem?_eq_none (by omega)] at nx
    exact pm_over (I.ok.hd hc) hi hp size0 p1 nx fun h' eb => ⟨rfl, I.turned (t' := s.toks) (fun b o hb q => eb b o hb q) f0 f1 f3 f4 f5⟩
  self := fun A i s Q E st h => by
    obtain ⟨hp, _, last, s0, hi, _⟩ := st
    exact pm_iter hi h
end Cut
set_option Elab.async false
set_option linter.all false
set_option maxRecDepth 100000
set_option maxHeartbeats 4000000
namespace Cut
open PySem PySem.Spec PyProof.Rows L2
theorem pm_class (x : Value) : Builtin.Itertools.itClassAndRest "permutations" ⟨[.type pT, x], []⟩ = pure (.type pT, [x]) := by
  have h := sub_pm
  unfold Builtin.Itertools.itClassAndRest
  show (do
    if !(← isType (.type pT)) then
      rule "itertools.__new__.not-a-type"; raiseError "TypeError" s!"{"itertools." ++ "permutations"}.__new__(X): X is not a type object ({← typeNameOf (.type pT)})"
    if !(← isSubtype (.type pT) (.type ("itertools." ++ "permutations"))) then
      rule "itertools.__new__.not-a-subtype"; raiseError "TypeError" s!"{"itertools." ++ "permutations"}.__new__({← typeName (.type pT)}): {← typeName (.type pT)} is not a subtype of {"itertools." ++ "permutations"}"
    return ((.type pT : Value), [x])) = _
  have e : ("itertools." ++ "permutations" : String) = pT := by decide
  rw [e, h]
  rfl
theorem pm_bind (x : Value) : Builtin.Itertools.itBindNamed "permutations" ["iterable", "r"] 1 2 [x] [] = pure [some x, none] := by
  unfold Builtin.Itertools.itBindNamed
  rfl

theorem anew_pm (obj a : Value) : argsOk "object.__init__" ⟨[obj, a], []⟩ := F.args_object_init_2 obj a
theorem fld_new (pool : Addr) (n : Nat) : (([.ref pool, rawInt (if (n : Int).toNat > n then 2 else 0), rawInt ((n : Int).toNat : Int), .none] ++ (List.range n).map (fun (i : Nat) => rawInt i) ++ (List.range ((n : Int).toNat)).map fun (i : Nat) => rawInt ((n : Int) - i)) : List Value) = Value.ref pool :: rawInt (0 : Int) :: rawInt (n : Int) :: Value.none :: ((startP n).1 ++ (startP n).2).map rawN := by
  unfold startP
  rw [Int.toNat_natCast, if_neg (Nat.lt_irrefl n)]
  have e : ((List.range n).map fun (i : Nat) => rawInt ((n : Int) - i)) = ((List.range n).map fun i => n - i).map rawN := by
    rw [List.map_map]
    refine List.map_congr_left fun i hi => ?_
    have := List.mem_range.mp hi
    show rawInt ((n : Int) - i) = rawInt ((n - i : Nat) : Int)
    rw [Int.ofNat_sub (by omega)]
  rw [e, List.map_append]
  rfl
theorem meets_pm (l : Addr) (o : Obj) (items : Array Value) (n : Nat) (hc : o.cls = .type "list") (hd : o.data = .seq items n) (hsz : items.size ≤ 1000) :
    Meets (Builtin.«itertools.permutations.__new__» ⟨[.type pT, .ref l], []⟩)
      (fun _ R s => s.heap.get? l = some o ∧ ∀ h' : Heap, (∀ b o', s.heap.get? b = some o' → h'.get? b = some o') → R (.ok (.ret (.ref (h'.objs.size + 1)))) { s with heap := (h'.push { cls := .type "tuple", data := .seq items }).push (pmObj h'.objs.size 0 items.size .none ((startP items.size).1 ++ (startP items.size).2)) }) :=
  .of_wp fun prog w A R s h => by
    obtain ⟨hp, g, d, tk, os⟩ := s; obtain ⟨ht, h⟩ := h
    have sl : items.size ≤ sizeLine := Nat.le_trans hsz (by decide)
    unfold Builtin.«itertools.permutations.__new__»
    rw [pm_class, pure_bind]
    show wpAny _ _ (Builtin.Itertools.itBindNamed "permutations" ["iterable", "r"] 1 2 [.ref l] [] >>= _) _ _ _
    rw [pm_bind, pure_bind]
    refine wpAny_bind (wpAny_collect_seq (hsz := sl) l (.inl rfl) ht hc hd fun h' hk => ?_)
    have e : items.toList.length = items.size := by simp
    have e3 : (((items.toList.length : Int) < 0)) = False := by simp
    have e4 : Builtin.Itertools.itTooMany (items.toList.length : Int) = false := by
      unfold Builtin.Itertools.itTooMany
      rw [e]
      exact decide_eq_false (by omega)
    dsimp only [Option.getD]
    rw [pure_bind, if_neg (by omega), e4, if_neg Bool.false_ne_true]
    refine wpAny_bind (wpAny_newTuple ?_ (by rw [e]; exact sl))
    rw [fld_new]
    unfold Builtin.Itertools.itNewRecord
    rw [nodict_pm]
    refine wpAny_bind ?_
    rw [if_pos (by rfl)]
    refine wpAny_newObj_type (hd := ?hd) ?_
    case hd =>
      show (_ : List Value).toArray.size ≤ sizeLine + 2
      rw [List.size_toArray]
      simp only [List.length_cons, List.length_map, List.length_append, startP, List.length_range]
      have : sizeLine = 2 ^ 24 := rfl
      omega
    refine wpAny_pure ⟨_, rfl, ?_⟩
    have e5 : items.toList.toArray = items := by simp
    rw [e, e5]
    have e6 : (h'.push { cls := .type "tuple", data := .seq items }).objs.size = h'.objs.size + 1 := by simp [Heap.push]
    show R (.ok (.ret (.ref (h'.push { cls := .type "tuple", data := .seq items }).objs.size))) _
    rw [e6]
    exact h h' hk
section
variable {X : Cx} {tg : Expr}
def iPerm (K : PySem.W.Frag) (ta : TA) : TI := fun σ H R => ta σ H fun vs H1 => ∃ (a : Addr) (xs : List V), vs = [.ref a] ∧ SqL K H1 a xs ∧ xs.length ≤ 6 ∧ R (Itp xs) H1
theorem pi_perms {e : Expr} {ta : TA} {p pos : Pos} (hg : Gl X "permutations") (hm : X.mg "permutations" = some (.type pT)) (ha : PA X [e] ta) (hs : starEach [e] X.env = [(false, eval e X.env)] := by rfl) : PI X tg (.Call (.Name "permutations" p) [e] [] pos) (iPerm X.K ta) := by
  refine ⟨fun pins s σ H R I h => ?_⟩
  refine Call_ (ld_glob I hg hm (PyProof.Rows.callWith_type1 (thn (ha.run pos pins s σ H _ I h) fun us s1 ⟨vs, H1, I1, r1, q1⟩ => ?_) hs rfl))
  obtain ⟨a, xs, e, hq, few, q⟩ := q1
  subst e
  cases r1 with
  | cons r rr =>
    cases rr
    cases r
    obtain ⟨its, rv, p', hz⟩ := I1.list hq
    obtain ⟨o, ho, hc, n, hd⟩ := p'.isList
    have hl := rv.length
    have sz : its.toArray.size = xs.length := by rw [List.size_toArray]; exact hl.symm
    refine callType_new called_pm (by decide) (tcall_pm _) (ncall_pm _) (fun obj => anew_pm obj _) enew_pm (meets_pm a o its.toArray n hc hd (by omega)) ⟨ho, fun h' hk => ?_⟩
    rw [sz]
    have k2 : ∀ b o', s1.heap.get? b = some o' → ((h'.push { cls := .type "tuple", data := .seq its.toArray }).push (pmObj h'.objs.size 0 xs.length .none ((startP xs.length).1 ++ (startP xs.length).2))).get? b = some o' := fun b o' e => Heap.get?_push_of_some _ (Heap.get?_push_of_some _ (hk b o' e))
    have e6 : (h'.push { cls := .type "tuple", data := .seq its.toArray }).objs.size = h'.objs.size + 1 := by simp [Heap.push]
    have g1 : ((h'.push { cls := .type "tuple", data := .seq its.toArray }).push (pmObj h'.objs.size 0 xs.length .none ((startP xs.length).1 ++ (startP xs.length).2))).get? (h'.objs.size + 1) = some (pmObj h'.objs.size 0 xs.length .none ((startP xs.length).1 ++ (startP xs.length).2)) := by
      rw [← e6]
      exact Heap.get?_push_size _ rfl
    have g2 : ((h'.push { cls := .type "tuple", data := .seq its.toArray }).push (pmObj h'.objs.size 0 xs.length .none ((startP xs.length).1 ++ (startP xs.length).2))).get? h'.objs.size = some { cls := .type "tuple", data := .seq its.toArray } := Heap.get?_push_of_some _ (Heap.get?_push_size _ rfl)
    refine ⟨⟨_, g1, rfl⟩, pm_iter g1 ?_⟩
    refine ⟨h'.objs.size + 1, [h'.objs.size + 1, h'.objs.size], _, Itp xs, H1, rfl, I1.kept k2, turn_perms (h'.objs.size + 1) h'.objs.size rv few, ⟨g2, Nat.ne_of_lt (Nat.lt_succ_self _), .none, startP xs.length, g1, rfl⟩, fun b hb => ?_, q⟩
    have I2 := I1.kept (t' := s1.toks) hk
    have lb : h'.objs.size ≤ b := by
      simp only [List.mem_cons, List.not_mem_nil, or_false] at hb
      rcases hb with rfl | rfl
      · exact Nat.le_succ _
      · exact Nat.le_refl _
    exact I2.fpOk lb (I2.hok.fresh lb)
end
end Cut
set_option Elab.async false
set_option linter.all false
set_option maxRecDepth 100000
set_option maxHeartbeats 4000000
namespace Cut
open PySem PySem.Spec PyProof.Rows L2
/-! ### combinations(list, 3) -/
abbrev cT : String := "itertools.combinations"
theorem mro_cm : mroOf (.type cT) = pure [.type cT, .type "object"] := by rw [mroOf_type]; kernel_rfl
theorem new_cm : typeLookup (.type cT) "__new__" = pure (some (.builtin "itertools.combinations.__new__")) := by rw [typeLookup_type, builtinLookup_eq_fast]; kernel_rfl
theorem init_cm : Slot cT "__init__" "object.__init__" :=
  .of (owner := "object") (n := "__init__") (by rw [typeLookup_type, builtinLookup_eq_fast]; kernel_rfl) (by decide +kernel) (by decide +kernel) (by decide +kernel) (by first | exact .inl (by decide +kernel) | exact .inr (by decide +kernel)) (by rw [isSubtype_type]; kernel_rfl)
theorem sub_cm : isSubtype (.type cT) (.type cT) = pure true := by rw [isSubtype_type]; kernel_rfl
theorem called_cm : TypeCalled cT "itertools.combinations.__new__" "object.__init__" :=
  ⟨by decide +kernel, by decide +kernel, ⟨_, _, mro_cm⟩, madeBy_type mro_cm new_cm (by decide +kernel), by decide +kernel, sub_cm, init_cm⟩
theorem tcall_cm (a b : Value) : checkTypeCall cT ⟨[a, b], []⟩ = pure () := by kernel_rfl
theorem ncall_cm (a b : Value) : checkBuiltinCall "itertools.combinations.__new__" ⟨[.type cT, a, b], []⟩ = pure () := by kernel_rfl
theorem enew_cm : entryFor table "itertools.combinations.__new__" = some Builtin.«itertools.combinations.__new__» := entryFor_of_tree (by kernel_rfl)
theorem iter_cm : Slot cT "__iter__" "itertools.combinations.__iter__" :=
  .of (owner := cT) (n := "__iter__") (by rw [typeLookup_type, builtinLookup_eq_fast]; kernel_rfl) (by decide +kernel) (by decide +kernel) (by decide +kernel) (by first | exact .inl (by decide +kernel) | exact .inr (by decide +kernel)) sub_cm
theorem next_cm : Slot cT "__next__" "itertools.combinations.__next__" :=
  .of (owner := cT) (n := "__next__") (by rw [typeLookup_type, builtinLookup_eq_fast]; kernel_rfl) (by decide +kernel) (by decide +kernel) (by decide +kernel) (by first | exact .inl (by decide +kernel) | exact .inr (by decide +kernel)) sub_cm
theorem eiter_cm : entryFor table "itertools.combinations.__iter__" = some Builtin.«dict_keyiterator.__iter__» :=
  entryFor_alias (id' := "dict_keyiterator.__iter__") (by kernel_rfl) (by first | rfl | decide +kernel | (unfold String.splitOn; simp +decide [String.splitOnAux])) (by decide +kernel) (by kernel_rfl)
theorem enext_cm : entryFor table "itertools.combinations.__next__" = some Builtin.«itertools.combinations.__next__» := entryFor_of_tree (by kernel_rfl)
theorem nodict_cm : typeHasDict (.type cT) = false := by decide +kernel
/-- the next choice, as the library finds it -/
def nextC (n : Nat) (indices : List Nat) : Option (List Nat) :=
  let r := indices.length
  match (List.range r).reverse.find? fun i => indices.getD i 0 != i + n - r with
  | none => none
  | some i => some (indices.take i ++ (List.range (r - i)).map (indices.getD i 0 + 1 + ·))
theorem cm_next : ∃ nx : Nat → List Nat → Option (List Nat), (∀ n ix, nx n ix = nextC n ix) ∧
    ∀ args, Builtin.«itertools.combinations.__next__» args = (do
      let (self, _) ← slotArgs "__next__" 0 args
      let pool ← field self 0
      let indices ← Builtin.Itertools.itNumbersFrom self 3
      let handOut (indices : List Nat) : Sem Fin := do
        let result ← (do
          let items ← Builtin.Itertools.itPoolItems pool
          newTuple (indices.map fun i => items.getD i .none))
        let before ← field self 2
        setField self 2 result
        letGo [before] [result]
        ret result
      match ← Builtin.Itertools.itIntField self 1 with
      | 0 => setField self 1 (rawInt 1); handOut indices
      | 1 =>
        match nx (← Builtin.Itertools.itPoolItems pool).size indices with
        | some next => Builtin.Itertools.itSetNumbersFrom self 3 next; handOut next
        | none => setField self 1 (rawInt 2); Builtin.Itertools.itStop
      | _ => rule "itertools.combinations.ended"; Builtin.Itertools.itStop) := by
  refine ⟨?nx, ?h1, fun args => ?h3⟩
  case h3 => exact rfl
  case h1 => intro n ix; rfl
end Cut
set_option Elab.async false
set_option linter.all false
set_option maxRecDepth 100000
set_option maxHeartbeats 4000000
namespace Cut
open PySem PySem.Spec PyProof.Rows L2
theorem owner_cm : Manifest.owners.lookup (String.ofList ['s', 'n', 'o', 'i', 't', 'a', 'n', 'i', 'b', 'm', 'o', 'c', '.', 's', 'l', 'o', 'o', 't', 'r', 'e', 't', 'i'].reverse) = some Manifest.sig_itertools_combinations := by kernel_rfl
theorem aiter_cm (a : Value) : argsOk "itertools.combinations.__iter__" ⟨[a], []⟩ := by
  unfold argsOk
  rw [signature?_of (id := "itertools.combinations.__iter__") (n := ['_', '_', 'r', 'e', 't', 'i', '_', '_']) (o := ['s', 'n', 'o', 'i', 't', 'a', 'n', 'i', 'b', 'm', 'o', 'c', '.', 's', 'l', 'o', 'o', 't', 'r', 'e', 't', 'i']) (by kernel_rfl) owner_cm]
  kernel_rfl
theorem anext_cm (a : Value) : argsOk "itertools.combinations.__next__" ⟨[a], []⟩ := by
  unfold argsOk
  rw [signature?_of (id := "itertools.combinations.__next__") (n := ['_', '_', 't', 'x', 'e', 'n', '_', '_']) (o := ['s', 'n', 'o', 'i', 't', 'a', 'n', 'i', 'b', 'm', 'o', 'c', '.', 's', 'l', 'o', 'o', 't', 'r', 'e', 't', 'i']) (by kernel_rfl) owner_cm]
  kernel_rfl
def cmF (pool : Addr) (st : Int) (last : Value) (ns : List Nat) : Array Value := (Value.ref pool :: rawInt st :: last :: ns.map rawN).toArray
/-- the library's own object -/
def cmObj (pool : Addr) (st : Int) (last : Value) (ns : List Nat) : Obj := { cls := .type cT, dict := none, data := .fields (cmF pool st last ns) }
theorem numsC_read (pool : Addr) (st : Int) (last : Value) (ns : List Nat) {F : Value → Nat} (hF : ∀ k, F (rawN k) = k) : ((cmF pool st last ns).toList.drop 3).map F = ns := by
  unfold cmF
  simp only [List.drop_succ_cons, List.drop_zero, List.map_map]
  induction ns with
  | nil => rfl
  | cons x r ih =>
    rw [List.map_cons, ih]
    show F (rawN x) :: r = x :: r
    rw [hF]
section
variable {prog : Program} {w : World} {A : Around} {E : Value → Shared → Prop} {s : Shared} {it pool : Addr} {items : Array Value} {last : Value}
theorem cm_iter {st : Int} {ns : List Nat} {Q : Value → Shared → Prop} (hit : s.heap.get? it = some (cmObj pool st last ns)) (h : Q (.ref it) s) : wpAny (model prog w) A (pyIter (.ref it)) Q E s := by
  have hT : s.TypeIs (.ref it) cT := ⟨_, hit, rfl⟩
  refine wpAny_pyIter_slot hT iter_cm (wpAny_call_entry iter_cm hT eiter_cm ?_ (aiter_cm _))
  change wpAny _ _ (ret (Value.ref it)) _ _ s
  exact wpAny_pure ⟨_, rfl, cT, _, hT, next_cm.lookup, h⟩
/-- what hands out -/
def handC (it : Addr) (items : Array Value) (ix : List Nat) : Sem Fin := do
  let t ← newTuple (ix.map fun i => items.getD i .none)
  let before ← field (.ref it) 2
  setField (.ref it) 2 t
  letGo [before] [t]
  ret t
/-- the items of the pool are read -/
theorem poolC {β : Type} {k : Array Value → Sem β} {R : β → Shared → Prop} (hp : s.heap.get? pool = some { cls := .type "tuple", data := .seq items }) (h : wpAny (model prog w) A (k items) R E s) : wpAny (model prog w) A (Builtin.Itertools.itPoolItems (.ref pool) >>= k) R E s := by
  show wpAny _ _ ((do
    let some xs ← seqItems? (.ref pool) | unsupported "internal:itertools.pool"
    return xs) >>= _) _ _ s
  refine wpAny_bind ?_
  show wpAny _ _ (seqItems? (.ref pool) >>= _) _ _ s
  refine wpAny_bind ?_
  show wpAny _ _ (load pool >>= _) _ _ s
  exact wpAny_bind (wpAny_load hp (wpAny_pure (wpAny_pure h)))
/-- the beginning of a turn: what is read -/
theorem cm_read {st : Int} {ns : List Nat} {R : PySem.Fin → Shared → Prop} (hit : s.heap.get? it = some (cmObj pool st last ns)) (hp : s.heap.get? pool = some { cls := .type "tuple", data := .seq items }) (hst : st = 0 ∨ st = 1 ∨ st = 2)
    (zero : st = 0 → wpAny (model prog w) A (do
      setField (.ref it) 1 (rawInt 1)
      (do
        let result ← (do
          let items ← Builtin.Itertools.itPoolItems (.ref pool)
          newTuple (ns.map fun i => items.getD i .none))
        let before ← field (.ref it) 2
        setField (.ref it) 2 result
        letGo [before] [result]
        ret result)) R E s)
    (more : ∀ ix, st = 1 → nextC items.size ns = some ix → wpAny (model prog w) A (do
      Builtin.Itertools.itSetNumbersFrom (.ref it) 3 ix
      (do
        let result ← (do
          let items ← Builtin.Itertools.itPoolItems (.ref pool)
          newTuple (ix.map fun i => items.getD i .none))
        let before ← field (.ref it) 2
        setField (.ref it) 2 result
        letGo [before] [result]
        ret result)) R E s)
    (over : st = 1 → nextC items.size ns = none → wpAny (model prog w) A (do
      setField (.ref it) 1 (rawInt 2)
      Builtin.Itertools.itStop) R E s)
    (gone : st = 2 → wpAny (model prog w) A (do
      rule "itertools.combinations.ended"
      Builtin.Itertools.itStop) R E s) : wpAny (model prog w) A (Builtin.«itertools.combinations.__next__» ⟨[.ref it], []⟩) R E s := by
  obtain ⟨nx, e0, e2⟩ := cm_next
  rw [e2]
  show wpAny _ _ (field (.ref it) 0 >>= _) _ _ s
  refine wpAny_bind (wpAny_field hit rfl (x := .ref pool) (by rfl) ?_)
  show wpAny _ _ ((load it >>= _) >>= _) _ _ s
  refine wpAny_bind (wpAny_bind (wpAny_load hit (wpAny_pure ?_)))
  rw [numsC_read (hF := ?hF)]
  case hF => exact fun k => Int.toNat_natCast k
  show wpAny _ _ ((field (.ref it) 1 >>= _) >>= _) _ _ s
  refine wpAny_bind (wpAny_bind (wpAny_field hit rfl (x := rawInt st) (by rfl) (wpAny_pure ?_)))
  rcases hst with rfl | rfl | rfl
  · exact zero rfl
  · show wpAny _ _ (Builtin.Itertools.itPoolItems (.ref pool) >>= _) _ _ s
    refine poolC hp ?_
    show wpAny _ _ (match nx items.size ns with
      | some next => _
      | none => _) _ _ s
    rw [e0]
    cases hx : nextC items.size ns with
    | none => exact over rfl hx
    | some p => exact more p rfl hx
  · exact gone rfl
end
end Cut
set_option Elab.async false
set_option linter.all false
set_option maxRecDepth 100000
set_option maxHeartbeats 4000000
namespace Cut
open PySem PySem.Spec PyProof.Rows L2
section
variable {prog : Program} {w : World} {A : Around} {E : Value → Shared → Prop} {s : Shared} {it pool : Addr} {items : Array Value} {last : Value}
theorem cm_set1 {st st' : Int} {ns : List Nat} {h : Heap} (hit : h.get? it = some (cmObj pool st last ns)) : (h.update it (Obj.mapFields (·.setIfInBounds 1 (rawInt st')))).get? it = some (cmObj pool st' last ns) := by
  have := Heap.get?_update_self (Obj.mapFields (·.setIfInBounds 1 (rawInt st'))) hit rfl
  rw [this]
  rfl
theorem cm_set2 {st : Int} {ns : List Nat} {h : Heap} {v : Value} (hit : h.get? it = some (cmObj pool st last ns)) : (h.update it (Obj.mapFields (·.setIfInBounds 2 v))).get? it = some (cmObj pool st v ns) := by
  have := Heap.get?_update_self (Obj.mapFields (·.setIfInBounds 2 v)) hit rfl
  rw [this]
  rfl
theorem cm_setN {st : Int} {ns ms : List Nat} {h : Heap} (hit : h.get? it = some (cmObj pool st last ns)) : (h.update it (Obj.mapFields fun fs => fs.extract 0 3 ++ (ms.map fun (k : Nat) => rawInt k).toArray)).get? it = some (cmObj pool st last ms) := by
  have := Heap.get?_update_self (Obj.mapFields fun fs => fs.extract 0 3 ++ (ms.map fun (k : Nat) => rawInt k).toArray) hit rfl
  rw [this]
  have e : (cmF pool st last ns).extract 0 3 ++ (ms.map fun (k : Nat) => rawInt k).toArray = cmF pool st last ms := by
    refine Array.toList_inj.mp ?_
    unfold cmF
    simp [rawN]
  show some ({ cls := .type cT, dict := none, data := .fields ((cmF pool st last ns).extract 0 3 ++ (ms.map fun (k : Nat) => rawInt k).toArray) } : Obj) = _
  rw [e]
  rfl
theorem cm_tail {ix ns : List Nat} {R : PySem.Fin → Shared → Prop} (hit : s.heap.get? it = some (cmObj pool 1 last ns)) (hp : s.heap.get? pool = some { cls := .type "tuple", data := .seq items }) (hl : ix.length ≤ 1000)
    (h : ∀ h' : Heap, h'.get? it = some (cmObj pool 1 (.ref s.heap.objs.size) ns) → h'.get? s.heap.objs.size = some { cls := .type "tuple", data := .seq (ix.map fun i => items.getD i .none).toArray } → (∀ b o, b ≠ it → s.heap.get? b = some o → h'.get? b = some o) → R (.done (.ret (.ref s.heap.objs.size))) { s with heap := h' }) :
    wpAny (model prog w) A (do
        let result ← (do
          let items ← Builtin.Itertools.itPoolItems (.ref pool)
          newTuple (ix.map fun i => items.getD i .none))
        let before ← field (.ref it) 2
        setField (.ref it) 2 result
        letGo [before] [result]
        ret result) R E s := by
  have lt : it < s.heap.objs.size := Heap.lt_size hit
  refine wpAny_bind ?_
  refine poolC hp ?_
  unfold newTuple
  refine wpAny_newObj_type ?_ (by
    show (ix.map fun i => items.getD i .none).toArray.size ≤ sizeLine
    rw [List.size_toArray, List.length_map]
    have : sizeLine = 2 ^ 24 := rfl
    omega)
  have hit2 : (s.heap.push { cls := .type "tuple", data := .seq (ix.map fun i => items.getD i .none).toArray }).get? it = some (cmObj pool 1 last ns) := Heap.get?_push_of_some _ hit
  refine wpAny_bind (wpAny_field hit2 rfl (x := last) (by rfl) ?_)
  refine wpAny_bind (wpAny_setField hit2 rfl (by
    show 2 < (cmF pool 1 last ns).size
    unfold cmF
    simp) ?_)
  refine wpAny_bind (wpAny_letGo ?_)
  refine wpAny_pure (h _ (cm_set2 hit2) ?_ fun b o ne e => ?_)
  · rw [Heap.get?_update_other _ _ (Nat.ne_of_lt lt)]
    exact Heap.get?_push_size _ rfl
  · rw [Heap.get?_update_other _ _ ne.symm]
    exact Heap.get?_push_of_some _ e
/-- what a turn that yields leaves -/
def CmDone (s : Shared) (it pool : Addr) (items : Array Value) (ix : List Nat) (Q : Option Value → Shared → Prop) : Prop :=
  ∀ h' : Heap, h'.get? it = some (cmObj pool 1 (.ref s.heap.objs.size) ix) → h'.get? s.heap.objs.size = some { cls := .type "tuple", data := .seq (ix.map fun i => items.getD i .none).toArray } → (∀ b o, b ≠ it → s.heap.get? b = some o → h'.get? b = some o) → Q (some (.ref s.heap.objs.size)) { s with heap := h' }
theorem fldC_size {st : Int} {ns : List Nat} : 3 ≤ (cmF pool st last ns).size := by
  unfold cmF
  simp
theorem cm_begin {ix : List Nat} {Q : Option Value → Shared → Prop} (hit : s.heap.get? it = some (cmObj pool 0 last ix)) (hp : s.heap.get? pool = some { cls := .type "tuple", data := .seq items }) (ne : pool ≠ it) (hn : ix.length ≤ 1000)
    (hQ : CmDone s it pool items ix Q) : wpAny (model prog w) A (pyNext (.ref it)) Q E s := by
  have hT : s.TypeIs (.ref it) cT := ⟨_, hit, rfl⟩
  unfold pyNext
  refine wpAny_bind (wpAny_attempt (wpAny_callSpecial?_slot hT next_cm (wpAny_call_entry next_cm hT enext_cm ?_ (anext_cm _))))
  refine cm_read hit hp (.inl rfl) (fun _ => ?_) (fun _ z => absurd z (by decide)) (fun z => absurd z (by decide)) (fun z => absurd z (by decide))
  refine wpAny_bind (wpAny_setField hit rfl (Nat.lt_of_lt_of_le (by decide) fldC_size) ?_)
  have sz : (s.heap.update it (Obj.mapFields fun x => x.setIfInBounds 1 (rawInt 1))).objs.size = s.heap.objs.size := (Heap.SameBut.update ..).1
  have back : ∀ b o, b ≠ it → s.heap.get? b = some o → (s.heap.update it (Obj.mapFields fun x => x.setIfInBounds 1 (rawInt 1))).get? b = some o := fun b o ne e => by
    rw [Heap.get?_update_other _ _ ne.symm]
    exact e
  have hit1 := cm_set1 (st' := 1) hit
  have hp1 := back _ _ ne hp
  generalize hh : s.heap.update it (Obj.mapFields fun x => x.setIfInBounds 1 (rawInt 1)) = h1 at sz back hit1 hp1 ⊢
  refine cm_tail (s := { s with heap := h1 }) (it := it) (pool := pool) (last := last) hit1 hp1 hn fun h' g1 g2 g3 => ?_
  refine ⟨_, rfl, wpAny_pure ?_⟩
  have g := hQ h'
  have sz : ({ s with heap := h1 } : Shared).heap.objs.size = s.heap.objs.size := sz
  rw [sz] at g1 g2 ⊢
  exact g g1 g2 fun b o ne e => g3 b o ne (back b o ne e)
theorem cm_more {ix ix' : List Nat} {Q : Option Value → Shared → Prop} (hit : s.heap.get? it = some (cmObj pool 1 last ix)) (hp : s.heap.get? pool = some { cls := .type "tuple", data := .seq items }) (ne : pool ≠ it) (hn : ix'.length ≤ 1000)
    (nx : nextC items.size ix = some ix') (hQ : CmDone s it pool items ix' Q) : wpAny (model prog w) A (pyNext (.ref it)) Q E s := by
  have hT : s.TypeIs (.ref it) cT := ⟨_, hit, rfl⟩
  unfold pyNext
  refine wpAny_bind (wpAny_attempt (wpAny_callSpecial?_slot hT next_cm (wpAny_call_entry next_cm hT enext_cm ?_ (anext_cm _))))
  refine cm_read hit hp (.inr (.inl rfl)) (fun z => absurd z (by decide)) (fun a _ z => ?_) (fun _ z => ?_) (fun z => absurd z (by decide))
  · rw [nx] at z
    cases z
    refine wpAny_bind (m := Builtin.Itertools.itSetNumbersFrom (.ref it) 3 ix') ?_
    show wpAny _ _ (updateFields it fun fs => fs.extract 0 3 ++ (ix'.map fun (k : Nat) => rawInt k).toArray) _ _ s
    refine wpAny_updateFields hit rfl ?_ ?_
    · have sz : (s.heap.update it (Obj.mapFields fun fs => fs.extract 0 3 ++ (ix'.map fun (k : Nat) => rawInt k).toArray)).objs.size = s.heap.objs.size := (Heap.SameBut.update ..).1
      have back : ∀ b o, b ≠ it → s.heap.get? b = some o → (s.heap.update it (Obj.mapFields fun fs => fs.extract 0 3 ++ (ix'.map fun (k : Nat) => rawInt k).toArray)).get? b = some o := fun b o ne e => by
        rw [Heap.get?_update_other _ _ ne.symm]
        exact e
      have hit1 := cm_setN (ms := ix') hit
      have hp1 := back _ _ ne hp
      generalize hh : s.heap.update it (Obj.mapFields fun fs => fs.extract 0 3 ++ (ix'.map fun (k : Nat) => rawInt k).toArray) = h1 at sz back hit1 hp1 ⊢
      refine cm_tail (s := { s with heap := h1 }) (it := it) (pool := pool) (last := last) hit1 hp1 hn fun h' g1 g2 g3 => ?_
      refine ⟨_, rfl, wpAny_pure ?_⟩
      have g := hQ h'
      have sz : ({ s with heap := h1 } : Shared).heap.objs.size = s.heap.objs.size := sz
      rw [sz] at g1 g2 ⊢
      exact g g1 g2 fun b o ne e => g3 b o ne (back b o ne e)
    · show ((cmF pool 1 last ix).extract 0 3 ++ (ix'.map fun (k : Nat) => rawInt k).toArray).size ≤ sizeLine + 3
      simp only [Array.size_append, List.size_toArray, List.length_map, Array.size_extract]
      have : sizeLine = 2 ^ 24 := rfl
      omega
  · rw [nx] at z
    cases z
theorem cm_stop {s : Shared} {R : PySem.Fin → Shared → Prop} {Q : Option Value → Shared → Prop} {h0 : Heap} (hh : A.handled = none) (e0 : Heap.ExtBut it h0 s.heap) (hQ : ∀ h', Heap.ExtBut it h0 h' → Q none { s with heap := h' }) :
    wpAny (model prog w) A.in1 Builtin.Itertools.itStop R (fun e s1 => wpAny (model prog w) A (isInstance e (.type "StopIteration")) (fun b s2 => if b = true then Q none s2 else False) E s1) s := by
  unfold Builtin.Itertools.itStop
  refine wpAny_bind (m := newExc (.type "StopIteration") []) ?_
  unfold newExc newTuple
  refine wpAny_bind (wpAny_newObj_type ?_ (by size_fits))
  refine wpAny_bind (m := firstArgMember (.type "StopIteration") _) ?_
  refine wpAny_of_eq (a := Value.none) (by unfold firstArgMember; rfl) ?_
  refine wpAny_newObj_type ?_ (by size_fits)
  unfold raiseNew
  refine wpAny_bind (wpAny_handled ?_)
  have hh1 : A.in1.handled = none := hh
  rw [hh1]
  refine wpAny_bind (wpAny_pure (wpAny_throw ?_))
  refine wpAny_isInstance (b := true) (T := "StopIteration") ⟨_, Heap.get?_push_size _ rfl, rfl⟩ isSubtype_stop ?_
  rw [if_pos rfl]
  exact hQ _ ((e0.push _).push _)
end
end Cut
set_option Elab.async false
set_option linter.all false
set_option maxRecDepth 100000
set_option maxHeartbeats 4000000
namespace Cut
open PySem PySem.Spec PyProof.Rows L2
section
variable {prog : Program} {w : World} {A : Around} {E : Value → Shared → Prop} {s : Shared} {it pool : Addr} {items : Array Value} {last : Value}
theorem cm_over {ix : List Nat} {Q : Option Value → Shared → Prop} (hh : A.handled = none) (hit : s.heap.get? it = some (cmObj pool 1 last ix)) (hp : s.heap.get? pool = some { cls := .type "tuple", data := .seq items })
    (nx : nextC items.size ix = none) (hQ : ∀ h', Heap.ExtBut it s.heap h' → Q none { s with heap := h' }) : wpAny (model prog w) A (pyNext (.ref it)) Q E s := by
  have hT : s.TypeIs (.ref it) cT := ⟨_, hit, rfl⟩
  unfold pyNext
  refine wpAny_bind (wpAny_attempt (wpAny_callSpecial?_slot hT next_cm (wpAny_call_entry next_cm hT enext_cm ?_ (anext_cm _))))
  refine cm_read hit hp (.inr (.inl rfl)) (fun z => absurd z (by decide)) (fun a _ z => ?_) (fun _ _ => ?_) (fun z => absurd z (by decide))
  · rw [nx] at z
    cases z
  · refine wpAny_bind (wpAny_setField hit rfl (Nat.lt_of_lt_of_le (by decide) fldC_size) ?_)
    unfold Builtin.Itertools.itStop
    refine wpAny_bind (m := newExc (.type "StopIteration") []) ?_
    unfold newExc newTuple
    refine wpAny_bind (wpAny_newObj_type ?_ (by size_fits))
    refine wpAny_bind (m := firstArgMember (.type "StopIteration") _) ?_
    refine wpAny_of_eq (a := Value.none) (by unfold firstArgMember; rfl) ?_
    refine wpAny_newObj_type ?_ (by size_fits)
    unfold raiseNew
    refine wpAny_bind (wpAny_handled ?_)
    have hh1 : A.in1.handled = none := hh
    rw [hh1]
    refine wpAny_bind (wpAny_pure (wpAny_throw ?_))
    refine wpAny_bind (wpAny_isInstance (b := true) (T := "StopIteration") ⟨_, Heap.get?_push_size _ rfl, rfl⟩ isSubtype_stop ?_)
    exact wpAny_pure (hQ _ (((Heap.SameBut.update ..).extBut.push _).push _))
theorem cm_gone {ix : List Nat} {Q : Option Value → Shared → Prop} (hh : A.handled = none) (hit : s.heap.get? it = some (cmObj pool 2 last ix)) (hp : s.heap.get? pool = some { cls := .type "tuple", data := .seq items })
    (hQ : ∀ h', Heap.ExtBut it s.heap h' → Q none { s with heap := h' }) : wpAny (model prog w) A (pyNext (.ref it)) Q E s := by
  have hT : s.TypeIs (.ref it) cT := ⟨_, hit, rfl⟩
  unfold pyNext
  refine wpAny_bind (wpAny_attempt (wpAny_callSpecial?_slot hT next_cm (wpAny_call_entry next_cm hT enext_cm ?_ (anext_cm _))))
  refine cm_read hit hp (.inr (.inr rfl)) (fun z => absurd z (by decide)) (fun _ z => absurd z (by decide)) (fun z => absurd z (by decide)) (fun _ => ?_)
  refine wpAny_bind (m := rule _) (wpAny_rule ?_)
  unfold Builtin.Itertools.itStop
  refine wpAny_bind (m := newExc (.type "StopIteration") []) ?_
  unfold newExc newTuple
  refine wpAny_bind (wpAny_newObj_type ?_ (by size_fits))
  refine wpAny_bind (m := firstArgMember (.type "StopIteration") _) ?_
  refine wpAny_of_eq (a := Value.none) (by unfold firstArgMember; rfl) ?_
  refine wpAny_newObj_type ?_ (by size_fits)
  unfold raiseNew
  refine wpAny_bind (wpAny_handled ?_)
  have hh1 : A.in1.handled = none := hh
  rw [hh1]
  refine wpAny_bind (wpAny_pure (wpAny_throw ?_))
  refine wpAny_bind (wpAny_isInstance (b := true) (T := "StopIteration") ⟨_, Heap.get?_push_size _ rfl, rfl⟩ isSubtype_stop ?_)
  exact wpAny_pure (hQ _ (Heap.ExtBut.push (Heap.ExtBut.push (fun b o _ e => e : Heap.ExtBut it s.heap s.heap) _) _))
end
/-! the choices of three, one behind the other -/
def runC (n : Nat) : Nat → List Nat → List (List Nat)
  | 0, _ => []
  | k + 1, s => s :: match nextC n s with
    | none => []
    | some s' => runC n k s'
def choicesP (n : Nat) : List (List Nat) := if n < 3 then [] else runC n 20 [0, 1, 2]
def chainC (n : Nat) : List (List Nat) → Bool
  | [] => decide (n < 3)
  | [s] => decide (nextC n s = none)
  | s :: s' :: r => decide (nextC n s = some s') && chainC n (s' :: r)
def comb2 : List Nat → List (Nat × Nat)
  | [] => []
  | x :: r => r.map (x, ·) ++ comb2 r
def comb3 : List Nat → List (Nat × Nat × Nat)
  | [] => []
  | x :: r => (comb2 r).map (x, ·) ++ comb3 r
def trip (t : Nat × Nat × Nat) : List Nat := [t.1, t.2.1, t.2.2]
def goodC (n : Nat) : Bool := chainC n (choicesP n) && (decide (n < 3) || decide ((choicesP n)[0]? = some [0, 1, 2])) && (choicesP n).all (fun s => decide (s.length = 3) && s.all fun k => decide (k < n)) && decide (choicesP n = (comb3 (List.range n)).map trip)
theorem goodC_small : (List.range 7).all goodC = true := by decide +kernel
theorem goodC_at {n : Nat} (h : n ≤ 6) : goodC n = true := List.all_eq_true.mp goodC_small n (List.mem_range.mpr (by omega))
theorem chainC_at {n : Nat} : ∀ {l : List (List Nat)}, chainC n l = true → ∀ {i : Nat} {s : List Nat}, l[i]? = some s → nextC n s = l[i + 1]?
  | [], h, _, _, e => by simp at e
  | [s0], h, i, s, e => by
    cases i with
    | zero =>
      cases e
      exact of_decide_eq_true h
    | succ i => cases e
  | s0 :: s1 :: r, h, i, s, e => by
    have h : (decide (nextC n s0 = some s1) && chainC n (s1 :: r)) = true := h
    rw [Bool.and_eq_true] at h
    cases i with
    | zero =>
      cases e
      exact of_decide_eq_true h.1
    | succ i => exact chainC_at h.2 e
theorem choices_ok {n : Nat} (h : n ≤ 6) : chainC n (choicesP n) = true ∧ (¬ n < 3 → (choicesP n)[0]? = some [0, 1, 2]) ∧ (∀ s ∈ choicesP n, s.length = 3 ∧ ∀ k ∈ s, k < n) ∧ choicesP n = (comb3 (List.range n)).map trip := by
  have g := goodC_at h
  unfold goodC at g
  simp only [Bool.and_eq_true] at g
  obtain ⟨⟨⟨g1, g2⟩, g3⟩, g4⟩ := g
  refine ⟨g1, fun l => ?_, fun s hs => ?_, of_decide_eq_true g4⟩
  · rw [decide_eq_false l, Bool.false_or] at g2
    exact of_decide_eq_true g2
  · have := List.all_eq_true.mp g3 s hs
    simp only [Bool.and_eq_true] at this
    exact ⟨of_decide_eq_true this.1, fun k hk => of_decide_eq_true (List.all_eq_true.mp this.2 k hk)⟩
end Cut
set_option Elab.async false
set_option linter.all false
set_option maxRecDepth 100000
set_option maxHeartbeats 4000000
namespace Cut
open PySem PySem.Spec PyProof.Rows L2
/-- the choices of the items xs, each a new tuple -/
def Itq (xs : List V) : It :=
  ⟨fun i _ => i < (choicesP xs.length).length, fun i H x H' => ∃ T s, (choicesP xs.length)[i]? = some s ∧ x = .ref T ∧ H T = none ∧ H' = upd H T (.tup (ordV xs s)), fun i _ => (choicesP xs.length).length ≤ i⟩
/-- the state ahead of the i-th turn -/
def CmSt (it pool : Addr) (items : List Value) (n i : Nat) (h : Heap) : Prop :=
  h.get? pool = some { cls := .type "tuple", data := .seq items.toArray } ∧ pool ≠ it ∧ ∃ last s, h.get? it = some (cmObj pool (if n < 3 then 2 else if i = 0 then 0 else 1) last s) ∧ (¬ n < 3 → if i = 0 then s = [0, 1, 2] else (choicesP n)[i - 1]? = some s)
theorem turn_choices {P : Program} {w : World} {K : PySem.W.Frag} {tg : Expr} (it pool : Addr) {xs : List V} {items : List Value} (r : Vals xs items) (hn : xs.length ≤ 6) : Turn P w K tg (Itq xs) [it, pool] it (fun i h => CmSt it pool items xs.length i h) where
  mem := by simp
  obj := fun i h st b hb => by
    obtain ⟨hp, _, last, s, hi, _⟩ := st
    have e : b = it ∨ b = pool := by simpa using hb
    rcases e with rfl | rfl
    · exact ⟨_, hi, fun v z => by cases z⟩
    · exact ⟨_, hp, fun v z => by cases z⟩
  keep := fun i h h' st k => by
    obtain ⟨hp, ne, last, s, hi, e⟩ := st
    exact ⟨k pool (by simp) _ hp, ne, last, s, k it (by simp) _ hi, e⟩
  item := by
    intro X hP hw hK hc i pins s σ H E I hf st hg
    subst hP hw hK
    have hlen := r.length
    obtain ⟨g1, g2, g3, _⟩ := choices_ok hn
    have hg : i < (choicesP xs.length).length := hg
    have big : ¬ xs.length < 3 := fun z => by
      have e : choicesP xs.length = [] := by unfold choicesP; rw [if_pos z]
      rw [e] at hg
      exact absurd hg (Nat.not_lt_zero _)
    obtain ⟨hp, ne, last, s0, hi, e⟩ := st
    have e := e big
    rw [if_neg big] at hi
    obtain ⟨si, hsi⟩ : ∃ si, (choicesP xs.length)[i]? = some si := ⟨_, List.getElem?_eq_getElem hg⟩
    obtain ⟨l1, lk⟩ := g3 si (List.mem_of_getElem? hsi)
    have size0 : items.toArray.size = xs.length := by rw [List.size_toArray]; exact hlen.symm
    have done : CmDone s it pool items.toArray si (fun r s1 => ∃ u, r = some u ∧
        wpAny (model X.prog X.w) X.A (letOwnedTupleGo tg (.ref it) u) (fun _ s2 => ∃ x H', Inv X pins σ H' s2 ∧ RelV x u ∧ (Itq xs).yld i H x H' ∧ CmSt it pool items xs.length (i + 1) s2.heap ∧ ∀ b ∈ [it, pool], H' b = none) E s1) := by
      intro h' k1 k2 k3
      refine ⟨_, rfl, ?_⟩
      have lt1 : it < s.heap.objs.size := Heap.lt_size hi
      have lt2 : pool < s.heap.objs.size := Heap.lt_size hp
      have hid : ∀ b ∈ [it, pool], H b = none := fun b hb => (hf b hb).1
      obtain ⟨f0, f1, f2, f3, f4, f5⟩ := hf it (by simp)
      have new : ObjOk X.prog X.w (upd H s.heap.objs.size (.tup (ordV xs si))) h' s.heap.objs.size (.tup (ordV xs si)) := by
        refine ⟨?_, _, ord_vals r hlen.symm lk, ⟨_, k2, rfl, _, rfl⟩⟩
        show (ordV xs si).length ≤ sizeLine
        unfold ordV
        rw [List.length_map, l1]
        have : sizeLine = 2 ^ 24 := rfl
        omega
      have I1 : Inv X pins σ (upd H s.heap.objs.size (.tup (ordV xs si))) { s with heap := h' } :=
        I.turnedNew (t' := s.toks) (ch := [it]) (fun c o hb q => k3 c o (fun z => hb (by simp [z])) q) (fun b hb => by
          have : b = it := by simpa using hb
          subst this
          exact ⟨f0, f1, f2, f3, f4, f5⟩) (Nat.le_refl _) new
      refine go_of (s := { s with heap := h' }) k1 rfl rfl (by decide) ⟨.ref s.heap.objs.size, _, I1, rfl, ⟨_, si, hsi, rfl, I.hok.fresh (Nat.le_refl _), rfl⟩, ⟨k3 pool _ ne hp, ne, _, si, by rw [if_neg big, if_neg (Nat.succ_ne_zero i)]; exact k1, fun _ => by rw [if_neg (Nat.succ_ne_zero i)]; exact hsi⟩, fun b hb => ?_⟩
      have hlt : b < s.heap.objs.size := by
        have e : b = it ∨ b = pool := by simpa using hb
        rcases e with rfl | rfl
        · exact lt1
        · exact lt2
      rw [upd_ne (Nat.ne_of_lt hlt)]
      exact hid b hb
    by_cases i0 : i = 0
    · subst i0
      rw [if_pos rfl] at hi e
      subst e
      have es : si = [0, 1, 2] := by
        rw [g2 big] at hsi
        exact (Option.some.inj hsi).symm
      subst es
      exact cm_begin hi hp ne (by simp) done
    · rw [if_neg i0] at hi e
      have nx := chainC_at g1 e
      have ei : i - 1 + 1 = i := by omega
      rw [ei, hsi, ← size0] at nx
      exact cm_more hi hp ne (by omega) nx done
  done := by
    intro X hP hw hK hc i pins s σ H E I hf st hg
    subst hP hw hK
    have hlen := r.length
    obtain ⟨g1, g2, g3, _⟩ := choices_ok hn
    have hg : (choicesP xs.length).length ≤ i := hg
    obtain ⟨hp, ne, last, s0, hi, e⟩ := st
    obtain ⟨f0, f1, f2, f3, f4, f5⟩ := hf it (by simp)
    have size0 : items.toArray.size = xs.length := by rw [List.size_toArray]; exact hlen.symm
    by_cases big : xs.length < 3
    · rw [if_pos big] at hi
      exact cm_gone (I.ok.hd hc) hi hp fun h' eb => ⟨rfl, I.turned (t' := s.toks) (fun b o hb q => eb b o hb q) f0 f1 f3 f4 f5⟩
    have e := e big
    rw [if_neg big] at hi
    have i0 : i ≠ 0 := fun z => by
      have := (List.getElem?_eq_some_iff.mp (g2 big)).1
      omega
    rw [if_neg i0] at hi e
    have nx := chainC_at g1 e
    rw [List.getElem?_eq_none (by omega), ← size0] at nx
    exact cm_over (I.ok.hd hc) hi hp nx fun h' eb => ⟨rfl, I.turned (t' := s.toks) (fun b o hb q => eb b o hb q) f0 f1 f3 f4 f5⟩
  self := fun A i s Q E st h => by
    obtain ⟨hp, _, last, s0, hi, _⟩ := st
    exact cm_iter hi h
/-! the call -/
theorem cm_class (x y : Value) : Builtin.Itertools.itClassAndRest "combinations" ⟨[.type cT, x, y], []⟩ = pure (.type cT, [x, y]) := by
  have h := sub_cm
  unfold Builtin.Itertools.itClassAndRest
  show (do
    if !(← isType (.type cT)) then
      rule "itertools.__new__.not-a-type"; raiseError "TypeError" s!"{"itertools." ++ "combinations"}.__new__(X): X is not a type object ({← typeNameOf (.type cT)})"
    if !(← isSubtype (.type cT) (.type ("itertools." ++ "combinations"))) then
      rule "itertools.__new__.not-a-subtype"; raiseError "TypeError" s!"{"itertools." ++ "combinations"}.__new__({← typeName (.type cT)}): {← typeName (.type cT)} is not a subtype of {"itertools." ++ "combinations"}"
    return ((.type cT : Value), [x, y])) = _
  have e : ("itertools." ++ "combinations" : String) = cT := by decide
  rw [e, h]
  rfl
theorem cm_bind (x y : Value) : Builtin.Itertools.itBindNamed "combinations" ["iterable", "r"] 2 2 [x, y] [] = pure [some x, some y] := by
  unfold Builtin.Itertools.itBindNamed
  rfl
theorem cm_newEq : ∀ x y : Value, Builtin.«itertools.combinations.__new__» ⟨[.type cT, x, y], []⟩ = (do
    let (cls, pool, n, r) ← (do
      let (cls, rest) ← Builtin.Itertools.itClassAndRest "combinations" ⟨[.type cT, x, y], []⟩
      let [some iterable, some rV] ← Builtin.Itertools.itBindNamed "combinations" ["iterable", "r"] 2 2 rest [] | unsupported "internal:itertools.combinations.__new__"
      let r ← Builtin.Itertools.itSsizeArg rV
      let items ← collect iterable
      if r < 0 then rule "itertools.combinations.negative-r"; raiseError "ValueError" "r must be non-negative"
      if Builtin.Itertools.itTooMany r then unsupported s!"itertools.{"combinations"}.__new__:memory"
      return (cls, ← newTuple items, items.length, r.toNat))
    ret (← Builtin.Itertools.itNewRecord cls ([pool, rawInt (if r > n then 2 else 0), .none] ++ (List.range r).map fun (i : Nat) => rawInt i))) := fun x y => rfl
end Cut
set_option Elab.async false
set_option linter.all false
set_option maxRecDepth 100000
set_option maxHeartbeats 4000000
namespace Cut
open PySem PySem.Spec PyProof.Rows L2
def stC (n : Nat) : Int := if n < 3 then 2 else 0
theorem meets_cm (l : Addr) (o : Obj) (items : Array Value) (n : Nat) (t : Tok) (hc : o.cls = .type "list") (hd : o.data = .seq items n) (hsz : items.size ≤ 1000) :
    Meets (Builtin.«itertools.combinations.__new__» ⟨[.type cT, .ref l, .int 3 t], []⟩)
      (fun _ R s => s.heap.get? l = some o ∧ ∀ h' : Heap, (∀ b o', s.heap.get? b = some o' → h'.get? b = some o') → R (.ok (.ret (.ref (h'.objs.size + 1)))) { s with heap := (h'.push { cls := .type "tuple", data := .seq items }).push (cmObj h'.objs.size (stC items.size) .none [0, 1, 2]) }) :=
  .of_wp fun prog w A R s h => by
    obtain ⟨hp, g, d, tk, os⟩ := s; obtain ⟨ht, h⟩ := h
    have sl : items.size ≤ sizeLine := Nat.le_trans hsz (by decide)
    rw [cm_newEq, cm_class]
    refine wpAny_bind (wpAny_bind (wpAny_pure ?_))
    dsimp only
    rw [cm_bind]
    refine wpAny_bind (wpAny_pure ?_)
    dsimp only
    refine wpAny_bind (m := Builtin.Itertools.itSsizeArg (.int 3 t)) ?_
    show wpAny _ _ (asIndex (.int 3 t) >>= _) _ _ _
    refine wpAny_bind ?_
    show wpAny _ _ (pure (some (3 : Int)) >>= _) _ _ _
    refine wpAny_bind (wpAny_pure (wpAny_pure ?_))
    rw [if_neg (by decide)]
    refine wpAny_pure ?_
    refine wpAny_bind (wpAny_collect_seq (hsz := sl) l (.inl rfl) ht hc hd fun h' hk => ?_)
    have e : items.toList.length = items.size := by simp
    rw [if_neg (by decide)]
    have e4 : Builtin.Itertools.itTooMany 3 = false := by decide
    rw [e4, if_neg Bool.false_ne_true]
    refine wpAny_bind (wpAny_newTuple ?_ (by rw [e]; exact sl))
    refine wpAny_pure ?_
    dsimp only
    unfold Builtin.Itertools.itNewRecord
    rw [nodict_cm]
    refine wpAny_bind ?_
    rw [if_pos (by rfl)]
    refine wpAny_newObj_type (hd := ?hd) ?_
    case hd =>
      show (_ : List Value).toArray.size ≤ sizeLine + 2
      rw [List.size_toArray]
      have : sizeLine = 2 ^ 24 := rfl
      simp only [List.length_append, List.length_cons, List.length_nil, List.length_map, List.length_range]
      have : (3 : Int).toNat = 3 := rfl
      omega
    refine wpAny_pure ⟨_, rfl, ?_⟩
    have e5 : items.toList.toArray = items := by simp
    rw [e, e5]
    have e6 : (h'.push { cls := .type "tuple", data := .seq items }).objs.size = h'.objs.size + 1 := by simp [Heap.push]
    show R (.ok (.ret (.ref (h'.push { cls := .type "tuple", data := .seq items }).objs.size))) _
    rw [e6]
    have e7 : (rawInt (if (3 : Int).toNat > items.size then 2 else 0)) = rawInt (stC items.size) := rfl
    rw [e7]
    exact h h' hk
section
variable {X : Cx} {tg : Expr}
def iComb (K : PySem.W.Frag) (ta : TA) : TI := fun σ H R => ta σ H fun vs H1 => ∃ (a : Addr) (xs : List V), vs = [.ref a, .int 3] ∧ SqL K H1 a xs ∧ xs.length ≤ 6 ∧ R (Itq xs) H1
theorem pi_combs {e e2 : Expr} {ta : TA} {p pos : Pos} (hg : Gl X "combinations") (hm : X.mg "combinations" = some (.type cT)) (ha : PA X [e, e2] ta)
    (hs : starEach [e, e2] X.env = (false, eval e X.env) :: starEach [e2] X.env := by rfl) (hpl : (backTo pos (starEach [e2] X.env)).any (·.1) = false := by rfl) : PI X tg (.Call (.Name "combinations" p) [e, e2] [] pos) (iComb X.K ta) := by
  refine ⟨fun pins s σ H R I h => ?_⟩
  refine Call_ (ld_glob I hg hm (PyProof.Rows.callWith_type1 (thn (ha.run pos pins s σ H _ I h) fun us s1 ⟨vs, H1, I1, r1, q1⟩ => ?_) hs hpl))
  obtain ⟨a, xs, e, hq, few, q⟩ := q1
  subst e
  cases r1 with
  | cons r rr =>
    cases rr with
    | cons r' rr =>
      cases rr
      cases r
      obtain ⟨t, rfl⟩ := r'
      obtain ⟨its, rv, p', hz⟩ := I1.list hq
      obtain ⟨o, ho, hc, n, hd⟩ := p'.isList
      have hl := rv.length
      have sz : its.toArray.size = xs.length := by rw [List.size_toArray]; exact hl.symm
      refine callType_new called_cm (by decide) (tcall_cm _ _) (ncall_cm _ _) (fun obj => F.args_object_init_3 obj _ _) enew_cm (meets_cm a o its.toArray n t hc hd (by omega)) ⟨ho, fun h' hk => ?_⟩
      rw [sz]
      have k2 : ∀ b o', s1.heap.get? b = some o' → ((h'.push { cls := .type "tuple", data := .seq its.toArray }).push (cmObj h'.objs.size (stC xs.length) .none [0, 1, 2])).get? b = some o' := fun b o' e => Heap.get?_push_of_some _ (Heap.get?_push_of_some _ (hk b o' e))
      have e6 : (h'.push { cls := .type "tuple", data := .seq its.toArray }).objs.size = h'.objs.size + 1 := by simp [Heap.push]
      have g1 : ((h'.push { cls := .type "tuple", data := .seq its.toArray }).push (cmObj h'.objs.size (stC xs.length) .none [0, 1, 2])).get? (h'.objs.size + 1) = some (cmObj h'.objs.size (stC xs.length) .none [0, 1, 2]) := by
        rw [← e6]
        exact Heap.get?_push_size _ rfl
      have g2 : ((h'.push { cls := .type "tuple", data := .seq its.toArray }).push (cmObj h'.objs.size (stC xs.length) .none [0, 1, 2])).get? h'.objs.size = some { cls := .type "tuple", data := .seq its.toArray } := Heap.get?_push_of_some _ (Heap.get?_push_size _ rfl)
      refine ⟨⟨_, g1, rfl⟩, cm_iter g1 ?_⟩
      refine ⟨h'.objs.size + 1, [h'.objs.size + 1, h'.objs.size], _, Itq xs, H1, rfl, I1.kept k2, turn_choices (h'.objs.size + 1) h'.objs.size rv few, ⟨g2, Nat.ne_of_lt (Nat.lt_succ_self _), .none, [0, 1, 2], g1, fun _ => rfl⟩, fun b hb => ?_, q⟩
      have I2 := I1.kept (t' := s1.toks) hk
      have lb : h'.objs.size ≤ b := by
        simp only [List.mem_cons, List.not_mem_nil, or_false] at hb
        rcases hb with rfl | rfl
        · exact Nat.le_succ _
        · exact Nat.le_refl _
      exact I2.fpOk lb (I2.hok.fresh lb)
end
end Cut
set_option Elab.async false
set_option linter.all false
namespace Cut
/-! ### lines and triads, by parting alone -/
/-- sim b a c: a and c are joined past b -/
structure Joins (sim : Nat → Nat → Nat → Prop) : Prop where
  refl : ∀ b a, sim b a a
  symm : ∀ b a c, sim b a c → sim b c a
  trans : ∀ b a c d, sim b a c → sim b c d → sim b a d
  btw : ∀ a b c d, ¬ sim c a b → sim d a b → sim d a c
section
variable {sim : Nat → Nat → Nat → Prop}
def LineP (sim : Nat → Nat → Nat → Prop) (p : List Nat) : Prop := ∀ a b c, [a, b, c].Sublist p → ¬ sim b a c
def NoTri (sim : Nat → Nat → Nat → Prop) (T : List Nat) : Prop := ∀ a ∈ T, ∀ b ∈ T, ∀ c ∈ T, a ≠ b → b ≠ c → a ≠ c → ¬ sim b a c ∨ ¬ sim a b c ∨ ¬ sim c a b
def ExtP (sim : Nat → Nat → Nat → Prop) (T : List Nat) (e : Nat) : Prop := ∀ b ∈ T, ∀ c ∈ T, b ≠ e → c ≠ e → b ≠ c → ¬ sim b e c ∨ ¬ sim c e b
theorem pair_sub {l : List Nat} {b c : Nat} (hb : b ∈ l) (hc : c ∈ l) (ne : b ≠ c) : [b, c].Sublist l ∨ [c, b].Sublist l := by
  induction l with
  | nil => simp at hb
  | cons x r ih =>
    rcases List.mem_cons.mp hb with e | hb2
    · rcases List.mem_cons.mp hc with e2 | hc2
      · exact absurd (e.trans e2.symm) ne
      · subst e
        exact .inl (List.Sublist.cons_cons _ (List.singleton_sublist.mpr hc2))
    · rcases List.mem_cons.mp hc with e2 | hc2
      · subst e2
        exact .inr (List.Sublist.cons_cons _ (List.singleton_sublist.mpr hb2))
      · rcases ih hb2 hc2 with h | h
        · exact .inl (h.trans (List.sublist_cons_self x r))
        · exact .inr (h.trans (List.sublist_cons_self x r))
theorem not_both : ∀ {l : List Nat} {a b : Nat}, l.Nodup → [a, b].Sublist l → [b, a].Sublist l → False
  | [], _, _, _, h, _ => by cases h
  | x :: r, a, b, nd, h1, h2 => by
    obtain ⟨n1, n2⟩ := List.nodup_cons.mp nd
    cases h1 with
    | cons _ h1 =>
      cases h2 with
      | cons _ h2 => exact not_both n2 h1 h2
      | cons_cons _ h2 => exact n1 (h1.subset (by simp))
    | cons_cons _ h1 =>
      cases h2 with
      | cons _ h2 => exact n1 (h2.subset (by simp))
      | cons_cons _ h2 => exact n1 (h1.subset (by simp))
theorem NoTri.sub {T U : List Nat} (h : NoTri sim T) (s : ∀ x ∈ U, x ∈ T) : NoTri sim U := fun a ha b hb c hc => h a (s a ha) b (s b hb) c (s c hc)
theorem first_of {P : Nat → Prop} : ∀ {l : List Nat}, (∃ x ∈ l, P x) → ∃ l1 u l2, l = l1 ++ u :: l2 ∧ P u ∧ ∀ y ∈ l1, ¬ P y
  | [], ⟨_, h, _⟩ => by simp at h
  | x :: r, h => by
    by_cases c : P x
    · exact ⟨[], x, r, rfl, c, by simp⟩
    · have h2 : ∃ y ∈ r, P y := by
        obtain ⟨y, hy, py⟩ := h
        rcases List.mem_cons.mp hy with e | hy
        · exact absurd (e ▸ py) c
        · exact ⟨y, hy, py⟩
      obtain ⟨l1, u, l2, e, pu, no⟩ := first_of h2
      refine ⟨x :: l1, u, l2, by rw [e]; rfl, pu, fun y hy => ?_⟩
      rcases List.mem_cons.mp hy with e2 | hy
      · rw [e2]; exact c
      · exact no y hy
theorem last_of {P : Nat → Prop} {l : List Nat} (h : ∃ x ∈ l, P x) : ∃ l1 u l2, l = l1 ++ u :: l2 ∧ P u ∧ ∀ y ∈ l2, ¬ P y := by
  obtain ⟨x, hx, px⟩ := h
  obtain ⟨l1, u, l2, e, pu, no⟩ := first_of (P := P) (l := l.reverse) ⟨x, List.mem_reverse.mpr hx, px⟩
  refine ⟨l2.reverse, u, l1.reverse, ?_, pu, fun y hy => no y (List.mem_reverse.mp hy)⟩
  have := congrArg List.reverse e
  rw [List.reverse_reverse] at this
  rw [this]
  simp
theorem sub3 {l r : List Nat} {a b c : Nat} (h1 : [a].Sublist l) (h2 : [b, c].Sublist r) : [a, b, c].Sublist (l ++ r) := h1.append h2
/-- of the least ones one that can stand at the end, if others are between -/
theorem pick_end (J : Joins sim) {p : List Nat} (line : LineP sim p) {M : Nat → Prop} {k e : Nat} (hk : k ∈ p) (nk : ¬ M k) (ex : ∃ u ∈ p, M u) (ke : ∀ u ∈ p, M u → sim k e u) :
    ∃ u ∈ p, M u ∧ (∀ b ∈ p, M b → b ≠ u → ¬ sim b u k) ∧ ∀ b ∈ p, ∀ c ∈ p, M b → M c → b ≠ u → c ≠ u → b ≠ c → ¬ sim b u c ∨ ¬ sim c u b := by
  obtain ⟨l, r, rfl⟩ := List.append_of_mem hk
  have apart : ∀ u ∈ l, M u → ∀ v ∈ r, M v → False := fun u hu mu v hv mv => by
    refine line u k v (sub3 (List.singleton_sublist.mpr hu) (List.Sublist.cons_cons _ (List.singleton_sublist.mpr hv))) ?_
    exact J.trans _ _ _ _ (J.symm _ _ _ (ke u (List.mem_append_left _ hu) mu)) (ke v (List.mem_append_right _ (List.mem_cons_of_mem _ hv)) mv)
  have inl_or : ∀ x ∈ l ++ k :: r, M x → x ∈ l ∨ x ∈ r := fun x hx mx => by
    rcases List.mem_append.mp hx with h | h
    · exact .inl h
    · rcases List.mem_cons.mp h with h | h
      · exact absurd (h ▸ mx) nk
      · exact .inr h
  obtain ⟨u0, hu0, mu0⟩ := ex
  rcases inl_or u0 hu0 mu0 with h0 | h0
  · have all : ∀ x ∈ l ++ k :: r, M x → x ∈ l := fun x hx mx => (inl_or x hx mx).elim id fun h => (apart u0 h0 mu0 x h mx).elim
    obtain ⟨l1, u, l2, rfl, mu, no⟩ := first_of ⟨u0, h0, mu0⟩
    have right : ∀ x ∈ (l1 ++ u :: l2) ++ k :: r, M x → x ≠ u → x ∈ l2 := fun x hx mx ne => by
      rcases List.mem_append.mp (all x hx mx) with h | h
      · exact absurd mx (no x h)
      · exact (List.mem_cons.mp h).resolve_left ne
    refine ⟨u, List.mem_append_left _ (List.mem_append_right _ List.mem_cons_self), mu, fun b hb mb ne => ?_, fun b hb c hc mb mc nb nc ne => ?_⟩
    · refine line u b k ?_
      have h2 := right b hb mb ne
      have s1 : [u, b].Sublist (l1 ++ u :: l2) := (List.Sublist.cons_cons u (List.singleton_sublist.mpr h2)).trans (List.sublist_append_right l1 _)
      exact s1.append (List.Sublist.cons_cons k (List.nil_sublist r))
    · have pre : ∀ {x y : Nat}, [x, y].Sublist l2 → [u, x, y].Sublist ((l1 ++ u :: l2) ++ k :: r) := fun h => ((List.Sublist.cons_cons u h).trans (List.sublist_append_right l1 _)).trans (List.sublist_append_left _ _)
      rcases pair_sub (right b hb mb nb) (right c hc mc nc) ne with h | h
      · exact .inl (line u b c (pre h))
      · exact .inr (line u c b (pre h))
  · have all : ∀ x ∈ l ++ k :: r, M x → x ∈ r := fun x hx mx => (inl_or x hx mx).elim (fun h => (apart x h mx u0 h0 mu0).elim) id
    obtain ⟨l1, u, l2, rfl, mu, no⟩ := last_of ⟨u0, h0, mu0⟩
    have left : ∀ x ∈ l ++ k :: (l1 ++ u :: l2), M x → x ≠ u → x ∈ l1 := fun x hx mx ne => by
      rcases List.mem_append.mp (all x hx mx) with h | h
      · exact h
      · rcases List.mem_cons.mp h with h | h
        · exact absurd h ne
        · exact absurd mx (no x h)
    have post : ∀ {x y : Nat}, [x, y].Sublist (k :: l1) → [x, y, u].Sublist (l ++ k :: (l1 ++ u :: l2)) := fun {x y} h => by
      have s1 : [x, y, u].Sublist ((k :: l1) ++ u :: l2) := h.append (List.Sublist.cons_cons u (List.nil_sublist l2))
      exact s1.trans (List.sublist_append_right l _)
    refine ⟨u, List.mem_append_right _ (List.mem_cons_of_mem _ (List.mem_append_right _ List.mem_cons_self)), mu, fun b hb mb ne z => ?_, fun b hb c hc mb mc nb nc ne => ?_⟩
    · exact line k b u (post (List.Sublist.cons_cons k (List.singleton_sublist.mpr (left b hb mb ne)))) (J.symm _ _ _ z)
    · rcases pair_sub (left b hb mb nb) (left c hc mc nc) ne with h | h
      · exact .inr fun z => line b c u (post (h.trans (List.sublist_cons_self k l1))) (J.symm _ _ _ z)
      · exact .inl fun z => line c b u (post (h.trans (List.sublist_cons_self k l1))) (J.symm _ _ _ z)
/-- a least one of a list by a total order that goes on -/
theorem least_exists {le : Nat → Nat → Prop} (tr : ∀ a b c, le a b → le b c → le a c) (rf : ∀ a, le a a) : ∀ {l : List Nat}, l ≠ [] → (∀ a ∈ l, ∀ b ∈ l, le a b ∨ le b a) → ∃ u ∈ l, ∀ b ∈ l, le u b
  | [], h, _ => absurd rfl h
  | [x], _, _ => ⟨x, List.mem_cons_self, fun b hb => by rw [List.mem_singleton.mp hb]; exact rf x⟩
  | x :: y :: r, _, tot => by
    obtain ⟨u, hu, lu⟩ := least_exists tr rf (l := y :: r) (by simp) fun a ha b hb => tot a (List.mem_cons_of_mem _ ha) b (List.mem_cons_of_mem _ hb)
    rcases tot x List.mem_cons_self u (List.mem_cons_of_mem _ hu) with h | h
    · refine ⟨x, List.mem_cons_self, fun b hb => ?_⟩
      rcases List.mem_cons.mp hb with e | hb
      · rw [e]; exact rf x
      · exact tr _ _ _ h (lu b hb)
    · refine ⟨u, List.mem_cons_of_mem _ hu, fun b hb => ?_⟩
      rcases List.mem_cons.mp hb with e | hb
      · rw [e]; exact h
      · exact lu b hb
/-- behind an end one stands that is nearest to it and can be the next end -/
theorem next_end (J : Joins sim) {R p : List Nat} {e : Nat} (ne : R ≠ []) (eR : e ∉ R) (ext : ∀ b ∈ R, ∀ c ∈ R, b ≠ c → ¬ sim b e c ∨ ¬ sim c e b) (tri : NoTri sim R) (perm : p.Perm R) (line : LineP sim p) :
    ∃ u ∈ R, (∀ b ∈ R, b ≠ u → ¬ sim u e b) ∧ ExtP sim R u := by
  have mem : ∀ x, x ∈ p ↔ x ∈ R := fun x => perm.mem_iff
  have up : ∀ u v w, ¬ sim u e v → ¬ sim v e w → ¬ sim u e w := fun u v w h1 h2 z => h1 (J.btw e w v u h2 z)
  have tr : ∀ a b c, (a = b ∨ ¬ sim a e b) → (b = c ∨ ¬ sim b e c) → (a = c ∨ ¬ sim a e c) := fun a b c h1 h2 => by
    rcases h1 with rfl | h1
    · exact h2
    · rcases h2 with rfl | h2
      · exact .inr h1
      · exact .inr (up a b c h1 h2)
  have tot : ∀ a ∈ R, ∀ b ∈ R, (a = b ∨ ¬ sim a e b) ∨ (b = a ∨ ¬ sim b e a) := fun a ha b hb => by
    by_cases c : a = b
    · exact .inl (.inl c)
    · rcases ext a ha b hb c with h | h
      · exact .inl (.inr h)
      · exact .inr (.inr h)
  obtain ⟨m0, hm0, lm0⟩ := least_exists (le := fun a b => a = b ∨ ¬ sim a e b) tr (fun a => .inl rfl) ne tot
  by_cases all : ∀ x ∈ R, ∀ b ∈ R, b ≠ x → ¬ sim x e b
  · -- all are nearest
    cases p with
    | nil =>
      have : R = [] := List.Perm.nil_eq perm |>.symm
      exact absurd this ne
    | cons u p' =>
      have hu : u ∈ R := (mem u).mp List.mem_cons_self
      refine ⟨u, hu, fun b hb nb => all u hu b hb nb, fun b hb c hc nb nc nbc => ?_⟩
      have hb' : b ∈ p' := (List.mem_cons.mp ((mem b).mpr hb)).resolve_left nb
      have hc' : c ∈ p' := (List.mem_cons.mp ((mem c).mpr hc)).resolve_left nc
      rcases pair_sub hb' hc' nbc with h | h
      · exact .inl (line u b c (List.Sublist.cons_cons u h))
      · exact .inr (line u c b (List.Sublist.cons_cons u h))
  · have exK : ∃ k ∈ R, ¬ ∀ b ∈ R, b ≠ k → ¬ sim k e b := Classical.byContradiction fun z => all fun x hx => Classical.byContradiction fun z2 => z ⟨x, hx, z2⟩
    generalize hM : (fun u => ∀ b ∈ R, b ≠ u → ¬ sim u e b) = M
    have dM : ∀ u, M u ↔ ∀ b ∈ R, b ≠ u → ¬ sim u e b := fun u => by rw [← hM]
    have ke : ∀ k ∈ R, ¬ M k → ∀ u ∈ R, M u → sim k e u := fun k hk nk u hu mu => Classical.byContradiction fun z => nk ((dM k).mpr fun b hb nb => by
      by_cases c : b = u
      · rw [c]; exact z
      · exact up k u b z ((dM u).mp mu b hb c))
    -- the nearest of the others
    have decK : ∀ x, Decidable (¬ M x) := fun x => Classical.propDecidable _
    have neK : R.filter (fun x => @decide (¬ M x) (decK x)) ≠ [] := fun z => by
      obtain ⟨k, hk, nk⟩ := exK
      have m : k ∈ R.filter (fun x => @decide (¬ M x) (decK x)) := List.mem_filter.mpr ⟨hk, by simpa using fun h => nk ((dM k).mp h)⟩
      rw [z] at m
      simp at m
    obtain ⟨k0, hk0, lk0⟩ := least_exists (le := fun a b => a = b ∨ ¬ sim a e b) tr (fun a => .inl rfl) neK fun a ha b hb => tot a (List.mem_filter.mp ha).1 b (List.mem_filter.mp hb).1
    have hk0R := (List.mem_filter.mp hk0).1
    have nk0 : ¬ M k0 := by simpa using (List.mem_filter.mp hk0).2
    have m0M : M m0 := (dM m0).mpr fun b hb nb => (lm0 b hb).resolve_left fun z => nb z.symm
    obtain ⟨u, hu, mu, noarr, pairs⟩ := pick_end J line (M := M) (k := k0) (e := e) ((mem k0).mpr hk0R) nk0 ⟨m0, (mem m0).mpr hm0, m0M⟩ fun x hx mx => ke k0 hk0R nk0 x ((mem x).mp hx) mx
    have huR := (mem u).mp hu
    have noK : ∀ b ∈ R, M b → b ≠ u → ∀ k ∈ R, ¬ M k → ¬ sim b u k := fun b hb mb nb k hk nk z => by
      refine noarr b ((mem b).mpr hb) mb nb ?_
      rcases lk0 k (List.mem_filter.mpr ⟨hk, by simpa using nk⟩) with rfl | h
      · exact z
      · have h2 : ¬ sim k0 u k := fun z2 => h (J.trans _ _ _ _ (ke k0 hk0R nk0 u huR mu) z2)
        exact J.btw u k k0 b h2 z
    refine ⟨u, huR, (dM u).mp mu, fun b hb c hc nb nc nbc => ?_⟩
    by_cases mb : M b
    · by_cases mc : M c
      · exact pairs b ((mem b).mpr hb) c ((mem c).mpr hc) mb mc nb nc nbc
      · exact .inl (noK b hb mb nb c hc mc)
    · by_cases mc : M c
      · exact .inr (noK c hc mc nc b hb mb)
      · rcases ext b hb c hc nbc with h | h
        · exact .inl fun z => h (J.trans _ _ _ _ (ke b hb mb u huR mu) z)
        · exact .inr fun z => h (J.trans _ _ _ _ (ke c hc mc u huR mu) z)
/-- a line of all but one: its first one or that one can stand at the end -/
theorem some_end (J : Joins sim) {t : List Nat} {x f : Nat} (nd : (f :: t).Nodup) (xt : x ∉ f :: t) (tri : NoTri sim (x :: f :: t)) (line : LineP sim (f :: t)) : ExtP sim (x :: f :: t) f ∨ ExtP sim (x :: f :: t) x := by
  refine Classical.byContradiction fun both => ?_
  rw [not_or] at both
  obtain ⟨nf, nx⟩ := both
  have fx : f ≠ x := fun z => xt (by rw [← z]; exact List.mem_cons_self)
  -- f cannot
  obtain ⟨i, hi, nif, s1, s2⟩ : ∃ i ∈ t, i ≠ f ∧ sim x f i ∧ sim i f x := by
    refine Classical.byContradiction fun z => nf fun b hb c hc nb nc nbc => ?_
    have inT : ∀ y ∈ x :: f :: t, y ≠ f → y = x ∨ y ∈ t := fun y hy ny => by
      rcases List.mem_cons.mp hy with h | h
      · exact .inl h
      · exact .inr ((List.mem_cons.mp h).resolve_left ny)
    rcases inT b hb nb with rfl | hb
    · rcases inT c hc nc with rfl | hc
      · exact absurd rfl nbc
      · refine Classical.byContradiction fun z2 => z ⟨c, hc, nc, ?_, ?_⟩
        · exact Classical.byContradiction fun z3 => z2 (.inl z3)
        · exact Classical.byContradiction fun z3 => z2 (.inr z3)
    · rcases inT c hc nc with rfl | hc
      · refine Classical.byContradiction fun z2 => z ⟨b, by assumption, nb, ?_, ?_⟩
        · exact Classical.byContradiction fun z3 => z2 (.inr z3)
        · exact Classical.byContradiction fun z3 => z2 (.inl z3)
      · rcases pair_sub hb hc nbc with h | h
        · exact .inl (line f b c (List.Sublist.cons_cons f h))
        · exact .inr (line f c b (List.Sublist.cons_cons f h))
  have ix : i ≠ x := fun z => xt (by rw [← z]; exact List.mem_cons_of_mem _ hi)
  have tfi : ¬ sim f x i := by
    rcases tri x List.mem_cons_self f (List.mem_cons_of_mem _ List.mem_cons_self) i (List.mem_cons_of_mem _ (List.mem_cons_of_mem _ hi)) fx.symm nif.symm ix.symm with h | h | h
    · exact h
    · exact absurd s1 h
    · exact absurd (J.symm _ _ _ s2) h
  -- x cannot
  obtain ⟨p, q, pq, s3, s4⟩ : ∃ p q, [p, q].Sublist (f :: t) ∧ sim p x q ∧ sim q x p := by
    refine Classical.byContradiction fun z => nx fun b hb c hc nb nc nbc => ?_
    have hb := (List.mem_cons.mp hb).resolve_left nb
    have hc := (List.mem_cons.mp hc).resolve_left nc
    refine Classical.byContradiction fun z2 => ?_
    have e1 : sim b x c := Classical.byContradiction fun z3 => z2 (.inl z3)
    have e2 : sim c x b := Classical.byContradiction fun z3 => z2 (.inr z3)
    rcases pair_sub hb hc nbc with h | h
    · exact z ⟨b, c, h, e1, e2⟩
    · exact z ⟨c, b, h, e2, e1⟩
  have hp : p ∈ f :: t := pq.subset (by simp)
  have hq : q ∈ f :: t := pq.subset (by simp)
  have npq : p ≠ q := by
    have := pq.nodup nd
    simpa using this
  have px : p ≠ x := fun z => xt (by rw [← z]; exact hp)
  have qx : q ≠ x := fun z => xt (by rw [← z]; exact hq)
  have tpq : ¬ sim x p q := by
    rcases tri p (List.mem_cons_of_mem _ hp) x List.mem_cons_self q (List.mem_cons_of_mem _ hq) px qx.symm npq with h | h | h
    · exact h
    · exact absurd s3 h
    · exact absurd (J.symm _ _ _ s4) h
  have fpre : ∀ {y z : Nat}, [y, z].Sublist t → [f, y, z].Sublist (f :: t) := fun h => List.Sublist.cons_cons f h
  by_cases cp : p = f
  · subst cp
    have hqt : q ∈ t := (List.mem_cons.mp hq).resolve_left npq.symm
    by_cases iq : i = q
    · subst iq
      exact tpq s1
    · rcases pair_sub hi hqt iq with h | h
      · have h1 := line p i q (fpre h)
        have h2 : ¬ sim i x q := fun z => h1 (J.trans _ _ _ _ s2 z)
        exact tfi (J.btw x q i p h2 s3)
      · have h1 := line p q i (fpre h)
        exact tpq (J.btw p i q x h1 s1)
  · have hpt : p ∈ t := (List.mem_cons.mp hp).resolve_left cp
    have pqt : [p, q].Sublist t := by
      cases pq with
      | cons _ h => exact h
      | cons_cons _ h => exact absurd rfl cp
    have hqt : q ∈ t := pqt.subset (by simp)
    have a0 := line f p q (fpre pqt)
    have a1 : ¬ sim p f x := fun z => a0 (J.trans _ _ _ _ z s3)
    have ip : i ≠ p := fun z => a1 (by rw [← z]; exact s2)
    rcases pair_sub hi hpt ip with h | h
    · exact line f i p (fpre h) (J.btw f x p i a1 s2)
    · have h1 := line f p i (fpre h)
      have sxp : sim x f p := J.btw f i p x h1 s1
      have iq : i ≠ q := fun z => tpq (J.trans _ _ _ _ (J.symm _ _ _ sxp) (by rw [← z]; exact s1))
      rcases pair_sub hi hqt iq with h2 | h2
      · -- p before i before q
        have sip : sim i f p := J.btw f x p i a1 s2
        have h3 : ¬ sim i p q := by
          refine line p i q ?_
          have piq : [p, i, q].Sublist t := by
            -- both pairs, no member twice
            obtain ⟨l1, l2, e⟩ := List.append_of_mem hi
            have ndt : t.Nodup := (List.nodup_cons.mp nd).2
            rw [e] at h h2 ndt ⊢
            have hpl : p ∈ l1 := by
              rcases List.mem_append.mp (h.subset (by simp : p ∈ [p, i])) with z | z
              · exact z
              · exfalso
                have hpl2 : p ∈ l2 := (List.mem_cons.mp z).resolve_left ip.symm
                have : [i, p].Sublist (l1 ++ i :: l2) := (List.Sublist.cons_cons i (List.singleton_sublist.mpr hpl2)).trans (List.sublist_append_right l1 _)
                exact not_both ndt h this
            have hql : q ∈ l2 := by
              rcases List.mem_append.mp (h2.subset (by simp : q ∈ [i, q])) with z | z
              · exfalso
                have : [q, i].Sublist (l1 ++ i :: l2) := (List.singleton_sublist.mpr z).append (List.Sublist.cons_cons i (List.nil_sublist l2))
                exact not_both ndt h2 this
              · exact (List.mem_cons.mp z).resolve_left iq.symm
            exact sub3 (List.singleton_sublist.mpr hpl) (List.Sublist.cons_cons i (List.singleton_sublist.mpr hql))
          exact piq.trans (List.sublist_cons_self f t)
        have six : sim i x p := J.trans _ _ _ _ (J.symm _ _ _ s2) sip
        have h4 : ¬ sim i x q := fun z => h3 (J.trans _ _ _ _ (J.symm _ _ _ six) z)
        have spi : sim p x i := J.btw x q i p h4 s3
        exact a1 (J.symm _ _ _ (J.btw x i f p tfi spi))
      · have h3 := line f q i (fpre h2)
        have sxq : sim x f q := J.btw f i q x h3 s1
        exact tpq (J.trans _ _ _ _ (J.symm _ _ _ sxp) sxq)
/-- either a line or a triad: if there is no triad, there is a line, and one from each table that can stand at the end -/
theorem line_exists (J : Joins sim) : ∀ (n : Nat) (T : List Nat), T.length ≤ n → T.Nodup → NoTri sim T →
    (∃ p, p.Perm T ∧ LineP sim p) ∧ ∀ e ∈ T, ExtP sim T e → ∃ p, (e :: p).Perm T ∧ LineP sim (e :: p)
  | 0, T, hl, _, _ => by
    have : T = [] := List.eq_nil_of_length_eq_zero (Nat.le_zero.mp hl)
    subst this
    exact ⟨⟨[], List.Perm.refl _, fun a b c h => by cases h⟩, fun e he => by simp at he⟩
  | n + 1, T, hl, nd, tri => by
    have from_end : ∀ e ∈ T, ExtP sim T e → ∃ p, (e :: p).Perm T ∧ LineP sim (e :: p) := fun e he ext => by
      have pe : T.Perm (e :: T.erase e) := List.perm_cons_erase he
      have ndE := pe.nodup_iff.mp nd
      obtain ⟨ne, ndR⟩ := List.nodup_cons.mp ndE
      have len : (T.erase e).length ≤ n := by
        rw [List.length_erase_of_mem he]
        omega
      have subR : ∀ x ∈ T.erase e, x ∈ T := fun x hx => pe.mem_iff.mpr (List.mem_cons_of_mem _ hx)
      have triR := tri.sub subR
      obtain ⟨⟨p0, perm0, line0⟩, fromR⟩ := line_exists J n _ len ndR triR
      generalize T.erase e = R at pe ndE ne ndR len subR triR perm0 fromR
      cases hR : R with
      | nil =>
        subst hR
        exact ⟨[], pe.symm, fun a b c h => absurd h.length_le (by simp)⟩
      | cons r0 R' =>
        have neR : R ≠ [] := by rw [hR]; simp
        have notE : ∀ x ∈ R, x ≠ e := fun x hx z => ne (by rw [← z]; exact hx)
        obtain ⟨u, hu, near, extU⟩ := next_end J neR ne (fun b hb c hc nbc => ext b (subR b hb) c (subR c hc) (notE b hb) (notE c hc) nbc) triR perm0 line0
        obtain ⟨p, perm, line⟩ := fromR u hu extU
        refine ⟨u :: p, (List.Perm.cons e perm).trans pe.symm, fun a b c h => ?_⟩
        cases h with
        | cons _ h => exact line a b c h
        | cons_cons _ h =>
          -- e, then two of the line
          have ndp : (u :: p).Nodup := perm.nodup_iff.mpr ndR
          have hbc : b ≠ c := by
            have := h.nodup ndp
            simpa using this
          have hc : c ∈ R := perm.mem_iff.mp (h.subset (by simp))
          cases h with
          | cons_cons _ h2 => exact near c hc (fun z => hbc z.symm)
          | cons _ h2 =>
            have cu : c ≠ u := fun z => (List.nodup_cons.mp ndp).1 (by rw [← z]; exact h2.subset (by simp))
            intro z
            have s1 := J.btw e c u b (near c hc cu) z
            exact line u b c (List.Sublist.cons_cons u h2) (J.trans _ _ _ _ (J.symm _ _ _ s1) z)
    refine ⟨?_, from_end⟩
    cases hT : T with
    | nil => exact ⟨[], List.Perm.refl _, fun a b c h => by cases h⟩
    | cons x R =>
      rw [hT] at from_end nd tri hl
      obtain ⟨nx, ndR⟩ := List.nodup_cons.mp nd
      obtain ⟨⟨p0, perm0, line0⟩, _⟩ := line_exists J n R (by simpa using hl) ndR (tri.sub fun y hy => List.mem_cons_of_mem _ hy)
      cases p0 with
      | nil =>
        have eR : R = [] := (List.Perm.nil_eq perm0).symm
        subst eR
        obtain ⟨p, h1, h2⟩ := from_end x List.mem_cons_self fun b hb c hc nb nc _ => absurd (List.mem_singleton.mp hb) nb
        exact ⟨x :: p, h1, h2⟩
      | cons f t =>
        have mem : ∀ y, y ∈ x :: f :: t ↔ y ∈ x :: R := fun y => (List.Perm.cons x perm0).mem_iff
        have xt : x ∉ f :: t := fun z => nx (perm0.mem_iff.mp z)
        have triF : NoTri sim (x :: f :: t) := tri.sub fun y hy => (mem y).mp hy
        have conv : ∀ e, ExtP sim (x :: f :: t) e → ExtP sim (x :: R) e := fun e h b hb c hc => h b ((mem b).mpr hb) c ((mem c).mpr hc)
        rcases some_end J (perm0.nodup_iff.mpr ndR) xt triF line0 with h | h
        · obtain ⟨p, h1, h2⟩ := from_end f ((mem f).mp (by simp)) (conv f h)
          exact ⟨f :: p, h1, h2⟩
        · obtain ⟨p, h1, h2⟩ := from_end x List.mem_cons_self (conv x h)
          exact ⟨x :: p, h1, h2⟩
end
end Cut
set_option Elab.async false
set_option linter.all false
set_option maxRecDepth 100000
set_option maxHeartbeats 8000000
namespace Cut
open PySem PySem.Spec PyProof.Rows L2
/-! ### chains past some names -/
def TW (ats : List Atm) (W : List Str) (j k : Nat) : Prop := ∃ x, x ∈ namesAt ats j ∧ x ∈ namesAt ats k ∧ x ∉ W
theorem TW.symm {ats : List Atm} {W : List Str} {j k : Nat} (h : TW ats W j k) : TW ats W k j := let ⟨x, a, b, c⟩ := h; ⟨x, b, a, c⟩
inductive CW (ats : List Atm) (W : List Str) : Nat → Nat → Prop
  | refl {i : Nat} : i < ats.length → CW ats W i i
  | step {i j k : Nat} : CW ats W i j → TW ats W j k → k < ats.length → CW ats W i k
theorem CW.lt {ats : List Atm} {W : List Str} {i j : Nat} (h : CW ats W i j) : i < ats.length ∧ j < ats.length := by
  induction h with
  | refl h => exact ⟨h, h⟩
  | step _ _ h ih => exact ⟨ih.1, h⟩
theorem CW.trans {ats : List Atm} {W : List Str} {i j k : Nat} (a : CW ats W i j) (b : CW ats W j k) : CW ats W i k := by
  induction b with
  | refl _ => exact a
  | step _ t l ih => exact .step ih t l
theorem CW.symm {ats : List Atm} {W : List Str} {i j : Nat} (a : CW ats W i j) : CW ats W j i := by
  induction a with
  | refl h => exact .refl h
  | step c t l ih => exact (CW.step (.refl l) t.symm c.lt.2).trans ih
theorem closedW {ats : List Atm} {W : List Str} {i : Nat} {S : Nat → Prop} (start : S i) (sound : ∀ k, S k → CW ats W i k) (closed : ∀ j k, S j → TW ats W j k → k < ats.length → S k) (k : Nat) : S k ↔ CW ats W i k := by
  refine ⟨sound k, fun c => ?_⟩
  induction c with
  | refl _ => exact start
  | step c t l ih => exact closed _ _ ih t l
theorem names_lt {ats : List Atm} {x : Str} {c : Nat} (h : x ∈ namesAt ats c) : c < ats.length := by
  by_cases hc : c < ats.length
  · exact hc
  · unfold namesAt at h
    rw [List.getD_eq_getElem?_getD, List.getElem?_eq_none (by omega)] at h
    simp [ptx] at h
/-- a and c are joined past b -/
def simP (ats : List Atm) (b a c : Nat) : Prop := a = c ∨ CW ats (namesAt ats b) a c
theorem joins (ats : List Atm) : Joins (simP ats) where
  refl := fun b a => .inl rfl
  symm := fun b a c h => h.elim (fun e => .inl e.symm) fun h => .inr h.symm
  trans := fun b a c d h g => by
    rcases h with rfl | h
    · exact g
    rcases g with rfl | g
    · exact .inr h
    · exact .inr (h.trans g)
  btw := fun a b c d n h => by
    rcases h with rfl | h
    · exact absurd (.inl rfl) n
    suffices g : ∀ {j}, CW ats (namesAt ats d) a j → simP ats c a j ∨ simP ats d a c by
      rcases g h with g | g
      · exact absurd g n
      · exact g
    intro j h
    induction h with
    | refl _ => exact .inl (.inl rfl)
    | @step j k h t l ih =>
      rcases ih with ih | ih
      · obtain ⟨x, x1, x2, x3⟩ := t
        by_cases hx : x ∈ namesAt ats c
        · exact .inr (.inr (.step h ⟨x, x1, hx, x3⟩ (names_lt hx)))
        · refine .inl (.inr ?_)
          rcases ih with rfl | ih
          · exact .step (.refl h.lt.1) ⟨x, x1, x2, hx⟩ l
          · exact .step ih ⟨x, x1, x2, hx⟩ l
      · exact .inr ih
theorem sim_iff {ats : List Atm} {b a c : Nat} (ha : a < ats.length) : simP ats b a c ↔ CW ats (namesAt ats b) a c :=
  ⟨fun h => h.elim (fun e => e ▸ .refl ha) id, .inr⟩
/-! whether -/
noncomputable def cwB (ats : List Atm) (b a c : Nat) : Bool := @decide (CW ats (namesAt ats b) a c) (Classical.propDecidable _)
theorem cwB_iff {ats : List Atm} {b a c : Nat} : cwB ats b a c = true ↔ CW ats (namesAt ats b) a c := @decide_eq_true_iff _ (Classical.propDecidable _)
theorem cwB_false {ats : List Atm} {b a c : Nat} : cwB ats b a c = false ↔ ¬ CW ats (namesAt ats b) a c := by
  rw [← cwB_iff, Bool.not_eq_true]
theorem cwB_symm {ats : List Atm} {b a c : Nat} : cwB ats b a c = cwB ats b c a := by
  cases h : cwB ats b c a with
  | true => exact cwB_iff.mpr (cwB_iff.mp h).symm
  | false => exact cwB_false.mpr fun z => cwB_false.mp h z.symm
end Cut
set_option Elab.async false
set_option linter.all false
set_option maxRecDepth 100000
set_option maxHeartbeats 8000000
namespace Cut
open PySem PySem.Spec PyProof.Rows L2
structure WInv (ats : List Atm) (W : List Str) (i0 p : Nat) (F : List Nat) : Prop where
  nd : F.Nodup
  lt : ∀ k ∈ F, k < ats.length
  start : i0 ∈ F
  sound : ∀ k ∈ F, CW ats W i0 k
  closed : ∀ q j, q < p → F[q]? = some j → ∀ k, k < ats.length → TW ats W j k → k ∈ F
theorem WInv.push {ats : List Atm} {W : List Str} {i0 p k : Nat} {F : List Nat} (h : WInv ats W i0 p F) (hp : p ≤ F.length) (hk : k ∉ F) (c : CW ats W i0 k) : WInv ats W i0 p (F ++ [k]) := by
  refine ⟨?_, fun j hj => ?_, List.mem_append_left _ h.start, fun j hj => ?_, fun q j hq e m hm t => ?_⟩
  · rw [List.nodup_append]
    refine ⟨h.nd, by simp, fun a ha b hb e => ?_⟩
    rw [List.mem_singleton.mp hb] at e
    rw [e] at ha
    exact hk ha
  · rcases List.mem_append.mp hj with hj | hj
    · exact h.lt j hj
    · rw [List.mem_singleton.mp hj]
      exact c.lt.2
  · rcases List.mem_append.mp hj with hj | hj
    · exact h.sound j hj
    · rw [List.mem_singleton.mp hj]
      exact c
  · rw [List.getElem?_append_left (by omega)] at e
    exact List.mem_append_left _ (h.closed q j hq e m hm t)
theorem WInv.next {ats : List Atm} {W : List Str} {i0 p j : Nat} {F : List Nat} (h : WInv ats W i0 p F) (hj : F[p]? = some j) (all : ∀ k, k < ats.length → TW ats W j k → k ∈ F) : WInv ats W i0 (p + 1) F :=
  ⟨h.nd, h.lt, h.start, h.sound, fun q i hq e => by
    by_cases c : q = p
    · rw [c, hj] at e
      cases e
      exact all
    · exact h.closed q i (by omega) e⟩
theorem WInv.done {ats : List Atm} {W : List Str} {i0 p : Nat} {F : List Nat} (h : WInv ats W i0 p F) (hp : F.length ≤ p) (k : Nat) : k ∈ F ↔ CW ats W i0 k :=
  closedW (S := fun k => k ∈ F) h.start h.sound (fun j k hj t l => by
    obtain ⟨q, hq, e⟩ := List.getElem_of_mem hj
    exact h.closed q j (by omega) (by rw [List.getElem?_eq_getElem hq, e]) k l t) k
theorem tw_filter {ats : List Atm} {W : List Str} {j i : Nat} : ((namesAt ats i).filter fun x => decide (x ∈ (namesAt ats j).filter fun x => !decide (x ∈ W))).isEmpty = false ↔ TW ats W j i := by
  unfold TW
  cases h : (namesAt ats i).filter fun x => decide (x ∈ (namesAt ats j).filter fun x => !decide (x ∈ W)) with
  | nil =>
    refine ⟨fun z => (nomatch z), fun ⟨x, h1, h2, h3⟩ => ?_⟩
    have m : x ∈ (namesAt ats i).filter fun x => decide (x ∈ (namesAt ats j).filter fun x => !decide (x ∈ W)) := List.mem_filter.mpr ⟨h2, decide_eq_true (List.mem_filter.mpr ⟨h1, by rw [decide_eq_false h3]; rfl⟩)⟩
    rw [h] at m
    exact absurd m (by simp)
  | cons x r =>
    refine ⟨fun _ => ?_, fun _ => rfl⟩
    have m : x ∈ (namesAt ats i).filter fun x => decide (x ∈ (namesAt ats j).filter fun x => !decide (x ∈ W)) := by rw [h]; exact List.mem_cons_self
    obtain ⟨m1, m2⟩ := List.mem_filter.mp m
    obtain ⟨m3, m4⟩ := List.mem_filter.mp (of_decide_eq_true m2)
    refine ⟨x, m3, m1, fun z => ?_⟩
    rw [decide_eq_true z] at m4
    cases m4
end Cut
set_option Elab.async false
set_option linter.all false
set_option maxRecDepth 100000
set_option maxHeartbeats 8000000
namespace Cut
open PySem PySem.Spec PyProof.Rows L2
section
variable {P : Program} {w : World} {K : PySem.W.Frag} {mg : Str → Option Value} {base : Heap}
def spReachedW (K : PySem.W.Frag) : Sp := fun vs H Q _ => ∃ (d wl : Addr) (o : Obj) (kvs : List (Key × V)) (ats : List Atm) (i0 : Nat) (W : List Str), vs = [.ref d, .str (tabAt ats i0), .ref wl] ∧ OwnF K H d o kvs ats ∧ SqL K H wl (W.map V.str) ∧ i0 < ats.length ∧ Few ats ∧ (ats.map (·.1)).Nodup ∧ TxOk ats ∧
  ∀ (H' : Hp) (l : Addr) (F : List Nat), Same H H' → H l = none → H' l = some (.lst (tabsV ats F)) → (∀ k, k ∈ F ↔ CW ats W i0 k) → F.Nodup → Q (.ref l) H'
theorem ok_reachedW {f : Addr} {fd : FuncData} (F : Fun K "_law_reached" "_law_reached" sReached f fd) (B : Blt mg) : FnOk P w K mg base CX0 1 f fd ["own", "start", "without"] (spReachedW K) := by
  refine F.ok scReached (fun vs H Q E h => ?_) (fun cdv A outer s H vs Q E hr h => ?_)
  · obtain ⟨d, wl, o, kvs, ats, i0, W, rfl, _⟩ := h
    rfl
  · obtain ⟨d, wl, o, kvs, ats, i0, W, rfl, own, hw, hi0, few, dist, txok, fin⟩ := h
    have nd := scReached.nd
    have hu := hu_of hr
    have fm := few.many
    have ln : ∀ n : Nat, n ≤ 1000 → n ≤ sizeLine := fun n h => Nat.le_of_lt (small1000 h)
    refine ⟨_, pss_cons (ps_par (i := 3) (j := 4) (by rfl) nd rfl rfl (by decide) rfl rfl (pa_cons (pe_lst (pa_cons (pv 1) pa_nil)) (pa_cons pe_int pa_nil)) (by rfl))
      (pss_cons (ps_while PassesOwn.never (pt_cmpR op_lt (pv 4) (pe_callB call_len_seq (by rfl) B.len PySem.boot_len (pa_cons (pv 3) pa_nil)) (nomark _))
        (pss_cons (ps_set (i := 5) nd rfl (.inr rfl) (pe_lc (own := [("name", 6)]) (g := gName 6) (tt := tTest (tOp (rIn K true) (tVar 6) (tVar 2))) (te := tVar 6) (by rfl) nd (pi_list (pe_dget hu (pv 0) (pe_ix ix_list (pv 3) (pv 4) (fun _ _ => rfl)) (fun _ _ => rfl))) (blkOk_by (own := [("name", 6)]) (N := NRe) (sc := defScope sReached) (by decide +kernel))
            (fun _ _ _ _ _ => pg_name (i := 6) nd rfl (Or.inl rfl)) (fun _ _ _ _ _ => pts_one (pt_cmpR op_notIn_seq (pv 6) (pv 2) (by rfl))) (fun _ _ _ _ _ => pv 6)))
        (pss_cons (ps_for PassesOwn.never rfl (pi_keys (pv 0)) (pg_name (i := 7) nd rfl (.inl rfl))
          (pss_one (ps_if (PW.pt (pw_and (pt_cmpR op_notIn_seq (pv 7) (pv 3) (by rfl)) (pw_and1 (pt_cmpR (op_neD hr.units) (pe_lc (own := [("name", 6)]) (g := gName 6) (tt := tTest (tOp (rIn K false) (tVar 6) (tVar 5))) (te := tVar 6) (by rfl) nd (pi_list (pe_dget hu (pv 0) (pv 7) (fun _ _ => rfl))) (blkOk_by (own := [("name", 6)]) (N := NRe) (sc := defScope sReached) (by decide +kernel))
            (fun _ _ _ _ _ => pg_name (i := 6) nd rfl (Or.inl rfl)) (fun _ _ _ _ _ => pts_one (pt_cmpR op_in_seq (pv 6) (pv 5) (by rfl))) (fun _ _ _ _ _ => pv 6)) (pe_lst pa_nil) (nomark _)))))
            (pss_one (ps_expr (pe_bm PySem.F.plainAttrs_list PySem.F.slot_list_append PySem.F.type_list_append mt_append (pv 3) (pa_cons (pv 7) pa_nil)))) pss_nil)))
        (pss_one (ps_set (i := 4) nd rfl (.inl rfl) (pe_op op_add (pv 4) pe_int))))))
      (pss_one (ps_ret (pv 3)))), ?_⟩
    refine ⟨_, rfl, ln 1 (by decide), fun l nl => ⟨_, _, rfl, ?_⟩⟩
    have W0 : Same H (upd H l (.lst [.str (tabAt ats i0)])) := same_new nl
    refine ⟨fun m σ H1 => ∃ (F : List Nat) (p : Nat) (x5 x7 : Option V), σ = [some (.ref d), some (.str (tabAt ats i0)), some (.ref wl), some (.ref l), some (.int (p : Int)), x5, none, x7] ∧ Same H H1 ∧ H1 l = some (.lst (tabsV ats F)) ∧ WInv ats W i0 p F ∧ p ≤ F.length ∧ m = ats.length - p,
      ⟨ats.length, [i0], 0, none, none, rfl, W0, upd_same, ⟨by simp, fun k hk => by rw [List.mem_singleton.mp hk]; exact hi0, by simp, fun k hk => by rw [List.mem_singleton.mp hk]; exact .refl hi0, fun q j hq => absurd hq (Nat.not_lt_zero q)⟩, Nat.zero_le _, rfl⟩, fun m σ H1 hW => ?_⟩
    obtain ⟨F, p, x5, x7, rfl, s1, hl, inv, pl, rfl⟩ := hW
    have fl := few_below inv.nd inv.lt
    have len1 : (tabsV ats F).length = F.length := List.length_map ..
    refine ⟨_, rfl, _, rfl, l, _, rfl, .inl (SqL.of hl), _, _, rfl, rfl, _, rfl, ?_⟩
    rw [len1]
    by_cases c : p < F.length
    · rw [decide_eq_true (by omega : (p : Int) < (F.length : Int))]
      refine iteT ⟨fun σ' H' => ∃ (F : List Nat) (x5 x7 : Option V), σ' = [some (.ref d), some (.str (tabAt ats i0)), some (.ref wl), some (.ref l), some (.int ((p + 1 : Nat) : Int)), x5, none, x7] ∧ Same H H' ∧ H' l = some (.lst (tabsV ats F)) ∧ WInv ats W i0 (p + 1) F ∧ p + 1 ≤ F.length, fun σ' H' hN => ?_, ?_⟩
      · obtain ⟨F', x5', x7', e, a1, a2, a3, a4⟩ := hN
        exact ⟨ats.length - (p + 1), by omega, F', p + 1, x5', x7', e, a1, a2, a3, a4, rfl⟩
      · obtain ⟨j0, hj0⟩ : ∃ j0, F[p]? = some j0 := ⟨_, List.getElem?_eq_getElem c⟩
        have lj0 := inv.lt j0 (List.mem_of_getElem? hj0)
        obtain ⟨lj, dg, sq⟩ := (own.same s1).get dist lj0
        have at1 : atI (tabsV ats F) (p : Int) = some (.str (tabAt ats j0)) := atI_nat (by unfold tabsV; rw [List.getElem?_map, hj0]; rfl)
        refine ⟨_, rfl, _, rfl, _, rfl, l, _, p, _, rfl, rfl, SqL.of hl, at1, d, _, rfl, dg, lj, rfl, ⟨_, sq⟩, fun S nS => ?_⟩
        refine walk_list (xs := (namesAt ats j0).map V.str) (fun i H7 => Same H1 H7 ∧ H7 S = some (.lst ((((namesAt ats j0).take i).filter fun x => !decide (x ∈ W)).map V.str))) ⟨same_new nS, upd_same⟩ (fun i H7 _ h => h.1.seq sq) ?_ ?_
        · rintro i x H7 hx ⟨sm, hS⟩
          rw [List.getElem?_map] at hx
          obtain ⟨z, hz, rfl⟩ := Option.map_eq_some_iff.mp hx
          have nf := names_few few j0
          have ft := filter_take (fun x => !decide (x ∈ W)) (namesAt ats j0) i z hz
          refine ⟨rfl, ?_⟩
          refine ⟨_, rfl, _, rfl, wl, _, rfl, .inl ((s1.trans sm).seq hw), rfl, flat_strs' _, _, rfl, ?_⟩
          rw [if_pos rfl, inV_str]
          by_cases hzW : z ∈ W
          · rw [if_neg (by rw [decide_eq_true hzW]; exact Bool.false_ne_true), List.append_nil] at ft
            rw [decide_eq_true hzW]
            refine iteF ⟨sm, ?_⟩
            rw [ft]
            exact hS
          · rw [if_pos (by rw [decide_eq_false hzW]; rfl)] at ft
            rw [decide_eq_false hzW]
            refine iteT ⟨_, rfl, _, hS, ?_, fun b o e => ?_, ?_⟩
            · rw [List.length_map]
              refine small1000 (Nat.le_trans (List.length_filter_le _ _) ?_)
              rw [List.length_take]
              omega
            · rw [upd_ne (ne_of_none e nS)]
              exact sm _ _ e
            · rw [upd_same, ft, List.map_append]
              rfl
        rintro H2 ⟨s2, hS⟩
        rw [List.length_map, List.take_length] at hS
        generalize hSj : ((namesAt ats j0).filter fun x => !decide (x ∈ W)) = Sj at hS
        have hl2 := s2 _ _ hl
        have Sl : S ≠ l := (ne_of_none hl nS).symm
        refine ⟨_, rfl, d, o, rfl, .inl ⟨kvs, (s1.trans s2) _ _ own.at_, ?_⟩⟩
        refine for_keys (fun i σ H' => ∃ (F : List Nat) (x7 : Option V), σ = [some (.ref d), some (.str (tabAt ats i0)), some (.ref wl), some (.ref l), some (.int (p : Int)), some (.ref S), none, x7] ∧ Same H H' ∧ H' l = some (.lst (tabsV ats F)) ∧ H' S = some (.lst (Sj.map V.str)) ∧ WInv ats W i0 p F ∧ p < F.length ∧ F[p]? = some j0 ∧ ∀ k, k < i → k < ats.length → TW ats W j0 k → k ∈ F)
          ⟨F, x7, rfl, s1.trans s2, hl2, hS, inv, c, hj0, fun k hk => absurd hk (Nat.not_lt_zero k)⟩ (fun i σ H' _ h => by obtain ⟨_, _, _, sm, _⟩ := h; exact sm _ _ own.at_) ?_ ?_
        · rintro i k v σ H' hk ⟨F, x7, rfl, sm, hl, hS, inv, c, hj0, all⟩
          obtain ⟨hi, ek⟩ := (own.same sm).key hk
          rw [ek]
          have fl := few_below inv.nd inv.lt
          refine ⟨_, rfl, _, rfl, l, _, rfl, .inl (SqL.of hl), rfl, flat_tabs ats F, _, rfl, ?_⟩
          rw [if_pos rfl, in_tabs dist hi inv.lt]
          by_cases hF : i ∈ F
          · rw [decide_eq_true hF, Bool.not_true]
            refine iteF (iteF ⟨F, _, rfl, sm, hl, hS, inv, c, hj0, fun k hk hk2 t => ?_⟩)
            by_cases e : k = i
            · rw [e]; exact hF
            · exact all k (by omega) hk2 t
          · rw [decide_eq_false hF, Bool.not_false]
            refine iteT ?_
            obtain ⟨li, dgi, sqi⟩ := (own.same sm).get dist hi
            refine ⟨_, rfl, _, rfl, d, _, rfl, dgi, li, rfl, ⟨_, sqi⟩, fun D nD => ?_⟩
            have nf := names_few few i
            refine walk_list (xs := (namesAt ats i).map V.str) (fun q H7 => Same H' H7 ∧ H7 D = some (.lst ((((namesAt ats i).take q).filter fun x => decide (x ∈ Sj)).map V.str))) ⟨same_new nD, upd_same⟩ (fun i H7 _ h => h.1.seq sqi) ?_ ?_
            · rintro q x H7 hx ⟨sm7, hD⟩
              rw [List.getElem?_map] at hx
              obtain ⟨z, hz, rfl⟩ := Option.map_eq_some_iff.mp hx
              have ft := filter_take (fun x => decide (x ∈ Sj)) (namesAt ats i) q z hz
              refine ⟨rfl, ?_⟩
              refine ⟨_, rfl, _, rfl, S, _, rfl, .inl (SqL.of (sm7 _ _ hS)), rfl, flat_strs' _, _, rfl, ?_⟩
              rw [if_neg Bool.false_ne_true, inV_str]
              by_cases hz2 : z ∈ Sj
              · rw [if_pos (decide_eq_true hz2)] at ft
                rw [decide_eq_true hz2]
                refine iteT ⟨_, rfl, _, hD, ?_, fun b u e => ?_, ?_⟩
                · rw [List.length_map]
                  refine small1000 (Nat.le_trans (List.length_filter_le _ _) ?_)
                  rw [List.length_take]
                  omega
                · rw [upd_ne (ne_of_none e nD)]
                  exact sm7 _ _ e
                · rw [upd_same, ft, List.map_append]
                  rfl
              · rw [if_neg (by rw [decide_eq_false hz2]; exact Bool.false_ne_true), List.append_nil] at ft
                rw [decide_eq_false hz2]
                refine iteF ⟨sm7, ?_⟩
                rw [ft]
                exact hD
            rintro H8 ⟨s8, hD⟩
            rw [List.length_map, List.take_length] at hD
            refine ⟨Nat.zero_le _, fun e ne => ?_⟩
            have s9 := s8.trans (same_new (o := .lst []) ne)
            have hD9 := at_new (u := .lst []) hD ne
            have he9 : upd H8 e (.lst []) e = some (.lst []) := upd_same
            generalize upd H8 e (.lst []) = H9 at s9 hD9 he9 ⊢
            generalize hts : ((namesAt ats i).filter fun x => decide (x ∈ Sj)) = ts at hD9 
            have tsok : ∀ x ∈ ts, PyData.strOk x = true := fun x hx => txok.at i x (by rw [← hts] at hx; exact (List.mem_filter.mp hx).1)
            have g := strs_layO ts tsok
            refine ⟨.list (ts.map .str), .list [], .lst (SqL.of hD9) (strs_dp ts), .lst (SqL.of he9) .nil, shaped_list g.1 (Nat.le_of_eq g.2) (by decide), by decide, _, rfl, ?_⟩
            rw [eqv_nil]
            have emp : (ts.map PyData.str).isEmpty = ts.isEmpty := by cases ts <;> rfl
            rw [emp]
            have tf := tw_filter (ats := ats) (W := W) (j := j0) (i := i)
            rw [hSj, hts] at tf
            cases hte : ts.isEmpty with
            | true =>
              rw [Bool.not_true]
              refine iteF ⟨F, _, rfl, sm.trans s9, s9 _ _ hl, s9 _ _ hS, inv, c, hj0, fun k hk hk2 t => ?_⟩
              by_cases e : k = i
              · rw [e] at t
                rw [tf.mpr t] at hte
                cases hte
              · exact all k (by omega) hk2 t
            | false =>
              rw [Bool.not_false]
              have t := tf.mp hte
              have hl9 := s9 _ _ hl
              refine iteT ⟨_, rfl, .inl ⟨rfl, _, SqL.of hl9⟩, _, rfl, l, _, _, rfl, rfl, hl9, ?_, F ++ [i], _, rfl, ?_, ?_, ?_, inv.push (by omega) hF (.step (inv.sound j0 (List.mem_of_getElem? hj0)) t hi), ?_, ?_, fun k hk hk2 t2 => ?_⟩
              · unfold tabsV
                rw [List.length_map]
                exact small1000 (by omega)
              · exact fun b u e => by rw [upd_ne (ne_of_none e nl)]; exact (sm.trans s9) _ _ e
              · rw [upd_same]
                unfold tabsV
                rw [List.map_append]
                rfl
              · rw [upd_ne Sl]
                exact s9 _ _ hS
              · rw [List.length_append]
                omega
              · rw [List.getElem?_append_left c]
                exact hj0
              · by_cases e : k = i
                · rw [e]; exact List.mem_append_right _ (List.mem_singleton.mpr rfl)
                · exact List.mem_append_left _ (all k (by omega) hk2 t2)
        · rintro σ H' ⟨F, x7, rfl, sm, hl, hS, inv, c, hj0, all⟩
          have lk := paired_len own.own
          refine ⟨_, rfl, _, _, rfl, rfl, F, some (.ref S), x7, ?_, sm, hl, inv.next hj0 fun k hk t => all k (by omega) hk t, c⟩
          have e : (p : Int) + 1 = ((p + 1 : Nat) : Int) := by omega
          rw [← e]
          rfl
    · rw [decide_eq_false (by omega : ¬ (p : Int) < (F.length : Int))]
      refine iteF ⟨_, rfl, ?_⟩
      exact fin H1 l F s1 nl hl (inv.done (by omega)) inv.nd
end
end Cut
set_option Elab.async false
set_option linter.all false
set_option maxRecDepth 100000
set_option maxHeartbeats 4000000
namespace Cut
/-! ### the first line and the first triad, by indices -/
def isLine (ats : List Atm) : List Nat → Prop := LineP (simP ats)
noncomputable def lineB (ats : List Atm) (p : List Nat) : Bool := @decide (isLine ats p) (Classical.propDecidable _)
theorem lineB_iff {ats : List Atm} {p : List Nat} : lineB ats p = true ↔ isLine ats p := @decide_eq_true_iff _ (Classical.propDecidable _)
/-- whether a table can stand behind a line -/
def isEnd (ats : List Atm) (p : List Nat) (e : Nat) : Prop := ∀ a b, [a, b].Sublist p → ¬ simP ats b a e
noncomputable def endB (ats : List Atm) (p : List Nat) (e : Nat) : Bool := @decide (isEnd ats p e) (Classical.propDecidable _)
theorem endB_iff {ats : List Atm} {p : List Nat} {e : Nat} : endB ats p e = true ↔ isEnd ats p e := @decide_eq_true_iff _ (Classical.propDecidable _)
theorem sub_snoc {p : List Nat} {e a b c : Nat} (h : [a, b, c].Sublist (p ++ [e])) : [a, b, c].Sublist p ∨ ([a, b].Sublist p ∧ c = e) := by
  rcases List.sublist_append_iff.mp h with ⟨l1, l2, e1, h1, h2⟩
  have h2l := h2.length_le
  have e2 := congrArg List.length e1
  simp only [List.length_append, List.length_cons, List.length_nil] at h2l e2
  match l2, h2, e1 with
  | [], _, e1 => 
    rw [List.append_nil] at e1
    rw [e1]
    exact .inl h1
  | [y], h2, e1 =>
    have hy : y = e := List.mem_singleton.mp (h2.subset (by simp))
    have e3 : [a, b] ++ [c] = l1 ++ [y] := e1
    obtain ⟨r1, r2⟩ := List.append_inj' e3 rfl
    refine .inr ⟨by rw [r1]; exact h1, ?_⟩
    rw [← hy]
    simpa using r2
  | y :: z :: r, h2, _ => 
    simp only [List.length_cons] at h2l
    omega
theorem line_snoc {ats : List Atm} {p : List Nat} {e : Nat} : isLine ats (p ++ [e]) ↔ isLine ats p ∧ isEnd ats p e := by
  refine ⟨fun h => ⟨fun a b c s => h a b c (s.trans (List.sublist_append_left _ _)), fun a b s => h a b e ?_⟩, fun ⟨h, g⟩ a b c s => ?_⟩
  · have := s.append (List.Sublist.refl [e])
    exact this
  · rcases sub_snoc s with s' | ⟨s', rfl⟩
    · exact h a b c s'
    · exact g a b s'
theorem line_pre {ats : List Atm} {p r : List Nat} (h : isLine ats (p ++ r)) : isLine ats p := fun a b c s => h a b c (s.trans (List.sublist_append_left _ _))
/-- depth first, as the law does -/
noncomputable def grownN (ats : List Atm) : Nat → List Nat → List Nat → Option (List Nat)
  | 0, line, _ => some line
  | k + 1, line, rest => rest.findSome? fun x => if endB ats line x then grownN ats k (line ++ [x]) (rest.filter (· != x)) else none
theorem find_flat {α β : Type} (f : α → List β) (q : β → Bool) : ∀ l : List α, (l.flatMap f).find? q = l.findSome? fun x => (f x).find? q
  | [] => rfl
  | x :: r => by
    rw [List.flatMap_cons, List.find?_append, find_flat f q r, List.findSome?_cons]
    cases (f x).find? q <;> rfl
theorem some_map {α β γ : Type} (g : β → γ) (f : α → Option β) : ∀ l : List α, (l.findSome? f).map g = l.findSome? fun x => (f x).map g
  | [] => rfl
  | x :: r => by
    rw [List.findSome?_cons, List.findSome?_cons, ← some_map g f r]
    cases f x <;> rfl
theorem some_congr {α β : Type} {f g : α → Option β} : ∀ {l : List α}, (∀ x ∈ l, f x = g x) → l.findSome? f = l.findSome? g
  | [], _ => rfl
  | x :: r, h => by
    rw [List.findSome?_cons, List.findSome?_cons, h x List.mem_cons_self, some_congr fun y hy => h y (List.mem_cons_of_mem _ hy)]
theorem find_map {α β : Type} (f : α → β) (q : β → Bool) : ∀ l : List α, (l.map f).find? q = (l.find? (fun x => q (f x))).map f
  | [] => rfl
  | x :: r => by
    rw [List.map_cons, List.find?_cons, List.find?_cons, find_map f q r]
    cases q (f x) <;> rfl
theorem grown_is (ats : List Atm) : ∀ (k : Nat) (line rest : List Nat), isLine ats line → grownN ats k line rest = ((lexP k rest).find? fun p => lineB ats (line ++ p)).map (line ++ ·)
  | 0, line, rest, h => by
    unfold grownN lexP
    rw [List.find?_cons, List.append_nil, lineB_iff.mpr h]
    simp
  | k + 1, line, rest, h => by
    unfold grownN lexP
    rw [find_flat, some_map]
    refine some_congr fun x hx => ?_
    rw [find_map]
    cases c : endB ats line x with
    | true =>
      rw [if_pos rfl, grown_is ats k (line ++ [x]) _ (line_snoc.mpr ⟨h, endB_iff.mp c⟩), Option.map_map]
      have e1 : (fun p => lineB ats (line ++ [x] ++ p)) = fun p => lineB ats (line ++ x :: p) := funext fun p => by rw [List.append_assoc]; rfl
      have e2 : ((line ++ [x] ++ ·) : List Nat → List Nat) = ((line ++ ·) ∘ (x :: ·)) := funext fun p => by
        show line ++ [x] ++ p = line ++ x :: p
        rw [List.append_assoc]; rfl
      rw [e1, e2]
    | false =>
      rw [if_neg Bool.false_ne_true]
      have none_ : (lexP k (rest.filter (· != x))).find? (fun p => lineB ats (line ++ x :: p)) = none := List.find?_eq_none.mpr fun p hp z => by
        have l := lineB_iff.mp z
        have e : line ++ x :: p = (line ++ [x]) ++ p := by rw [List.append_assoc]; rfl
        rw [e] at l
        have := (line_snoc.mp (line_pre l)).2
        rw [endB_iff.mpr this] at c
        cases c
      rw [none_]
      rfl
/-! all orders -/
theorem lex_mem : ∀ {k : Nat} {T p : List Nat}, T.length = k → T.Nodup → p.Perm T → p ∈ lexP k T
  | 0, T, p, hl, nd, h => by
    have : T = [] := List.eq_nil_of_length_eq_zero hl
    subst this
    have : p = [] := h.eq_nil
    subst this
    exact List.mem_singleton.mpr rfl
  | k + 1, T, p, hl, nd, h => by
    cases p with
    | nil =>
      have := h.length_eq
      simp at this
      omega
    | cons x p =>
      have hx : x ∈ T := h.mem_iff.mp List.mem_cons_self
      have ndp := h.nodup_iff.mpr nd
      obtain ⟨n1, n2⟩ := List.nodup_cons.mp ndp
      have hp : p.Perm (T.filter (· != x)) := (List.perm_ext_iff_of_nodup n2 (List.filter_sublist.nodup nd)).mpr fun y => by
        rw [List.mem_filter, bne_iff_ne, ← h.mem_iff, List.mem_cons]
        refine ⟨fun z => ⟨.inr z, fun e => n1 (e ▸ z)⟩, fun ⟨z, ne⟩ => z.resolve_left ne⟩
      have l2 : (T.filter (· != x)).length = k := by
        rw [← hp.length_eq]
        have := h.length_eq
        simp at this
        omega
      unfold lexP
      exact List.mem_flatMap.mpr ⟨x, hx, List.mem_map.mpr ⟨p, lex_mem l2 (List.filter_sublist.nodup nd) hp, rfl⟩⟩
theorem lex_perm : ∀ {k : Nat} {T p : List Nat}, T.length = k → T.Nodup → p ∈ lexP k T → p.Perm T
  | 0, T, p, hl, nd, h => by
    have : T = [] := List.eq_nil_of_length_eq_zero hl
    subst this
    rw [List.mem_singleton.mp h]
  | k + 1, T, p, hl, nd, h => by
    unfold lexP at h
    obtain ⟨x, hx, h⟩ := List.mem_flatMap.mp h
    obtain ⟨p', hp', rfl⟩ := List.mem_map.mp h
    have pe : T.Perm (x :: T.erase x) := List.perm_cons_erase hx
    have fe : T.filter (· != x) = T.erase x := (nd.erase_eq_filter x).symm
    have l2 : (T.filter (· != x)).length = k := by
      rw [fe, List.length_erase_of_mem hx]
      omega
    have := lex_perm l2 (List.filter_sublist.nodup nd) hp'
    rw [fe] at this
    exact (List.Perm.cons x this).trans pe.symm
theorem flat_congr {α β : Type} {f g : α → List β} : ∀ {l : List α}, (∀ x ∈ l, f x = g x) → l.flatMap f = l.flatMap g
  | [], _ => rfl
  | x :: r, h => by rw [List.flatMap_cons, List.flatMap_cons, h x List.mem_cons_self, flat_congr fun y hy => h y (List.mem_cons_of_mem _ hy)]
theorem sub_cons {a x : Nat} {l r : List Nat} : (a :: l).Sublist (x :: r) ↔ (a :: l).Sublist r ∨ (a = x ∧ l.Sublist r) := by
  rw [List.sublist_cons_iff]
  constructor
  · rintro (h | ⟨m, e, h⟩)
    · exact .inl h
    · cases e
      exact .inr ⟨rfl, h⟩
  · rintro (h | ⟨rfl, h⟩)
    · exact .inl h
    · exact .inr ⟨l, rfl, h⟩
theorem lex_map (f : Nat → Nat) : ∀ (k : Nat) (xs : List Nat), (∀ a ∈ xs, ∀ b ∈ xs, f a = f b → a = b) → lexP k (xs.map f) = (lexP k xs).map (List.map f)
  | 0, xs, _ => rfl
  | k + 1, xs, inj => by
    unfold lexP
    rw [List.flatMap_map, List.map_flatMap]
    refine flat_congr fun x hx => ?_
    have e : (xs.map f).filter (· != f x) = (xs.filter (· != x)).map f := by
      rw [List.filter_map]
      congr 1
      refine List.filter_congr fun y hy => ?_
      show (f y != f x) = (y != x)
      by_cases c : y = x
      · subst c; simp
      · have : f y ≠ f x := fun z => c (inj y hy x hx z)
        rw [bne_iff_ne.mpr this, bne_iff_ne.mpr c]
    rw [e, lex_map f k _ fun a ha b hb => inj a (List.mem_filter.mp ha).1 b (List.mem_filter.mp hb).1, List.map_map, List.map_map]
    rfl
theorem lex_range {T : List Nat} (nd : T.Nodup) : (lexP T.length (List.range T.length)).map (List.map (T.getD · 0)) = lexP T.length T := by
  have e : (List.range T.length).map (T.getD · 0) = T := by
    refine List.ext_getElem (by simp) fun i h1 h2 => ?_
    rw [List.getElem_map, List.getElem_range, List.getD_eq_getElem?_getD, List.getElem?_eq_getElem h2]
    rfl
  have := lex_map (T.getD · 0) T.length (List.range T.length) fun a ha b hb z => by
    have ha := List.mem_range.mp ha
    have hb := List.mem_range.mp hb
    have z : T.getD a 0 = T.getD b 0 := z
    rw [List.getD_eq_getElem?_getD, List.getD_eq_getElem?_getD, List.getElem?_eq_getElem ha, List.getElem?_eq_getElem hb] at z
    exact nodup_inj nd ha hb z
  rw [e] at this
  exact this.symm
/-! triads -/
noncomputable def triB (ats : List Atm) (t : Nat × Nat × Nat) : Bool := cwB ats t.2.2 t.1 t.2.1 && (cwB ats t.2.1 t.1 t.2.2 && cwB ats t.1 t.2.1 t.2.2)
theorem comb2_mem : ∀ {l : List Nat} {a b : Nat}, (a, b) ∈ comb2 l ↔ [a, b].Sublist l
  | [], a, b => by simp [comb2]
  | x :: r, a, b => by
    unfold comb2
    rw [List.mem_append, List.mem_map, comb2_mem (l := r), sub_cons]
    constructor
    · rintro (⟨y, hy, e⟩ | h)
      · cases e
        exact .inr ⟨rfl, List.singleton_sublist.mpr hy⟩
      · exact .inl h
    · rintro (h | ⟨rfl, h⟩)
      · exact .inr h
      · exact .inl ⟨b, List.singleton_sublist.mp h, rfl⟩
theorem comb3_mem : ∀ {l : List Nat} {a b c : Nat}, (a, b, c) ∈ comb3 l ↔ [a, b, c].Sublist l
  | [], a, b, c => by simp [comb3]
  | x :: r, a, b, c => by
    unfold comb3
    rw [List.mem_append, List.mem_map, comb3_mem (l := r), sub_cons]
    constructor
    · rintro (⟨y, hy, e⟩ | h)
      · cases e
        exact .inr ⟨rfl, comb2_mem.mp hy⟩
      · exact .inl h
    · rintro (h | ⟨rfl, h⟩)
      · exact .inr h
      · exact .inl ⟨(b, c), comb2_mem.mpr h, rfl⟩
theorem tri_sub {P : Nat → Nat → Nat → Prop} (s1 : ∀ a b c, P a b c → P b a c) (s2 : ∀ a b c, P a b c → P a c b) : ∀ {l : List Nat} {a b c : Nat}, a ∈ l → b ∈ l → c ∈ l → a ≠ b → b ≠ c → a ≠ c → P a b c → ∃ x y z, [x, y, z].Sublist l ∧ P x y z
  | [], _, _, _, h, _, _, _, _, _, _ => by simp at h
  | x :: r, a, b, c, ha, hb, hc, ab, bc, ac, p => by
    have two : ∀ {b c : Nat}, b ∈ r → c ∈ r → b ≠ c → P x b c → ∃ x' y z, [x', y, z].Sublist (x :: r) ∧ P x' y z := fun {b c} hb hc bc p => by
      rcases pair_sub hb hc bc with h | h
      · exact ⟨x, b, c, h.cons_cons x, p⟩
      · exact ⟨x, c, b, h.cons_cons x, s2 _ _ _ p⟩
    have out : ∀ {y : Nat}, y ∈ x :: r → y ≠ x → y ∈ r := fun h n => (List.mem_cons.mp h).resolve_left n
    by_cases c1 : a = x
    · subst c1
      exact two (out hb (Ne.symm ab)) (out hc (Ne.symm ac)) bc p
    by_cases c2 : b = x
    · subst c2
      exact two (out ha ab) (out hc (Ne.symm bc)) ac (s1 _ _ _ p)
    by_cases c3 : c = x
    · subst c3
      exact two (out ha ac) (out hb bc) ab (s1 _ _ _ (s2 _ _ _ p))
    obtain ⟨x', y, z, h, q⟩ := tri_sub s1 s2 (out ha c1) (out hb c2) (out hc c3) ab bc ac p
    exact ⟨x', y, z, h.cons x, q⟩
noncomputable def lineN (ats : List Atm) (T : List Nat) : Option (List Nat) := (lexP T.length T).find? (lineB ats)
noncomputable def triN (ats : List Atm) (T : List Nat) : Option (Nat × Nat × Nat) := (comb3 T).find? (triB ats)
theorem triB_iff {ats : List Atm} {a b c : Nat} : triB ats (a, b, c) = true ↔ CW ats (namesAt ats c) a b ∧ CW ats (namesAt ats b) a c ∧ CW ats (namesAt ats a) b c := by
  unfold triB
  rw [Bool.and_eq_true, Bool.and_eq_true, cwB_iff, cwB_iff, cwB_iff]
/-- a line or a triad, never both -/
theorem line_or_triad {ats : List Atm} {T : List Nat} (nd : T.Nodup) (lt : ∀ j ∈ T, j < ats.length) : lineN ats T = none ↔ ∃ t, triN ats T = some t := by
  constructor
  · intro h
    cases c : triN ats T with
    | some t => exact ⟨t, rfl⟩
    | none =>
      exfalso
      have no := List.find?_eq_none.mp c
      have tri : NoTri (simP ats) T := fun a ha b hb c hc ab bc ac => by
        by_cases p1 : simP ats b a c
        · by_cases p2 : simP ats a b c
          · by_cases p3 : simP ats c a b
            · exfalso
              obtain ⟨x, y, z, s, q⟩ := tri_sub (P := fun a b c => simP ats b a c ∧ simP ats a b c ∧ simP ats c a b) (fun a b c ⟨h1, h2, h3⟩ => ⟨h2, h1, (joins ats).symm _ _ _ h3⟩) (fun a b c ⟨h1, h2, h3⟩ => ⟨h3, (joins ats).symm _ _ _ h2, h1⟩) ha hb hc ab bc ac ⟨p1, p2, p3⟩
              have hx := lt x (s.subset (by simp))
              have hy := lt y (s.subset (by simp))
              refine no _ (comb3_mem.mpr s) (triB_iff.mpr ⟨(sim_iff hx).mp q.2.2, (sim_iff hx).mp q.1, (sim_iff hy).mp q.2.1⟩)
            · exact .inr (.inr p3)
          · exact .inr (.inl p2)
        · exact .inl p1
      obtain ⟨⟨p, perm, line⟩, _⟩ := line_exists (joins ats) T.length T (Nat.le_refl _) nd tri
      exact List.find?_eq_none.mp h p (lex_mem rfl nd perm) (lineB_iff.mpr line)
  · rintro ⟨⟨a, b, c⟩, h⟩
    cases g : lineN ats T with
    | none => rfl
    | some p =>
      exfalso
      obtain ⟨t1, t2, t3⟩ := triB_iff.mp (List.find?_some h)
      have s := comb3_mem.mp (List.mem_of_find?_eq_some h)
      have perm := lex_perm rfl nd (List.mem_of_find?_eq_some g)
      have line := lineB_iff.mp (List.find?_some g)
      have ndp := perm.nodup_iff.mpr nd
      have mem : ∀ x ∈ [a, b, c], x ∈ p := fun x hx => perm.mem_iff.mpr (s.subset hx)
      have nd3 := s.nodup nd
      simp only [List.nodup_cons, List.mem_cons, List.not_mem_nil, or_false, not_or, List.nodup_nil, and_true, not_false_eq_true] at nd3
      obtain ⟨⟨ab, ac⟩, bc⟩ := nd3
      obtain ⟨x, y, z, s, q⟩ := tri_sub (P := fun a b c => simP ats b a c ∧ simP ats a b c ∧ simP ats c a b) (fun a b c ⟨h1, h2, h3⟩ => ⟨h2, h1, (joins ats).symm _ _ _ h3⟩) (fun a b c ⟨h1, h2, h3⟩ => ⟨h3, (joins ats).symm _ _ _ h2, h1⟩) (mem a (by simp)) (mem b (by simp)) (mem c (by simp)) ab bc ac ⟨.inr t2, .inr t3, .inr t1⟩
      exact line x y z s q.1
/-- what depth first finds -/
theorem grown_line (ats : List Atm) (T : List Nat) : grownN ats T.length [] T = lineN ats T := by
  rw [grown_is ats _ _ _ fun a b c h => by cases h]
  unfold lineN
  have e : (fun p => lineB ats ([] ++ p)) = lineB ats := rfl
  rw [e]
  cases (lexP T.length T).find? (lineB ats) <;> rfl
end Cut
set_option Elab.async false
set_option linter.all false
set_option maxRecDepth 100000
set_option maxHeartbeats 8000000
namespace Cut
open PySem PySem.Spec PyProof.Rows L2
/-! ### whether two tables share a name past some, as the program looks at it -/
def twB (ats : List Atm) (W : List Str) (a b : Nat) : Bool := (namesAt ats a).any fun x => decide (x ∈ namesAt ats b) && !decide (x ∈ W)
theorem twB_iff {ats : List Atm} {W : List Str} {a b : Nat} : twB ats W a b = true ↔ TW ats W a b := by
  unfold twB TW
  rw [List.any_eq_true]
  constructor
  · rintro ⟨x, hx, e⟩
    rw [Bool.and_eq_true, Bool.not_eq_true'] at e
    exact ⟨x, hx, of_decide_eq_true e.1, of_decide_eq_false e.2⟩
  · rintro ⟨x, hx, h1, h2⟩
    exact ⟨x, hx, by rw [decide_eq_true h1, decide_eq_false h2]; rfl⟩
/-- the own names, locked or not -/
def OwnQ (K : PySem.W.Frag) (H : Hp) (d : Addr) (ats : List Atm) : Prop := ∃ kvs : List (Key × V), Rd H d (.dK kvs) ∧ Paired (OwnKv K H) kvs ats
theorem OwnAt.q {K : PySem.W.Frag} {H : Hp} {d : Addr} {ats : List Atm} (x : OwnAt K H d ats) : OwnQ K H d ats := let ⟨kvs, h1, h2⟩ := x; ⟨kvs, .inl h1, h2⟩
theorem OwnF.q {K : PySem.W.Frag} {H : Hp} {d : Addr} {o : Obj} {kvs : List (Key × V)} {ats : List Atm} (x : OwnF K H d o kvs ats) : OwnQ K H d ats := ⟨kvs, .inr ⟨o, x.at_⟩, x.own⟩
theorem OwnQ.same {K : PySem.W.Frag} {H H' : Hp} {d : Addr} {ats : List Atm} (x : OwnQ K H d ats) (e : Same H H') : OwnQ K H' d ats := by
  obtain ⟨kvs, h1, h2⟩ := x
  refine ⟨kvs, ?_, paired_mono (fun _ _ y => y.same e) h2⟩
  rcases h1 with h | ⟨o, h⟩
  · exact .inl (e _ _ h)
  · exact .inr ⟨o, e _ _ h⟩
theorem OwnQ.get {K : PySem.W.Frag} {H : Hp} {d : Addr} {ats : List Atm} (x : OwnQ K H d ats) (nd : (ats.map (·.1)).Nodup) {i : Nat} (hi : i < ats.length) :
    ∃ l, DGet H d (.str (tabAt ats i)) (some (.ref l)) ∧ SqL K H l ((namesAt ats i).map V.str) := by
  obtain ⟨kvs, h1, h2⟩ := x
  have e := List.getElem?_eq_getElem hi
  obtain ⟨⟨k, v⟩, g1, g2, g3, l, g4, g5⟩ := paired_key h2 nd e
  have t : ats.getD i ("", []) = ats[i] := by rw [List.getD_eq_getElem?_getD, e]; rfl
  have g4 : v = .ref l := g4
  refine ⟨l, .inl ⟨kvs, .inr (tabAt ats i), h1, rfl, ?_⟩, ?_⟩
  · unfold tabAt
    rw [t, g3, g4]
  · unfold namesAt
    rw [t]
    exact g5
abbrev NTp : List Str := ["names", "one", "other", "past", "name"]
theorem scTouchP : FnScope NTp ["names", "one", "other", "past"] (defScope sTouchPast) := ⟨rfl, rfl, rfl, by decide +kernel, rfl, by decide +kernel, by decide +kernel⟩
section
variable {P : Program} {w : World} {K : PySem.W.Frag} {mg : Str → Option Value} {base : Heap}
def spTouchP (K : PySem.W.Frag) : Sp := fun vs H Q _ => ∃ (d : Addr) (ats : List Atm) (a b p : Nat), vs = [.ref d, .str (tabAt ats a), .str (tabAt ats b), .str (tabAt ats p)] ∧ OwnQ K H d ats ∧ Few ats ∧ (ats.map (·.1)).Nodup ∧ a < ats.length ∧ b < ats.length ∧ p < ats.length ∧
  ∀ H', Same H H' → Q (.bl (twB ats (namesAt ats p) a b)) H'
theorem ok_touchP {f : Addr} {fd : FuncData} (F : Fun K "_touch_past" "_touch_past" sTouchPast f fd) (mAny : mg "any" = none) : FnOk P w K mg base CX0 1 f fd ["names", "one", "other", "past"] (spTouchP K) := by
  refine F.ok scTouchP (fun vs H Q E h => ?_) (fun cdv A outer s H vs Q E hr h => ?_)
  · obtain ⟨d, ats, a, b, p, rfl, _⟩ := h
    rfl
  · obtain ⟨d, ats, a, b, p, rfl, own, few, dist, ha, hb, hp, fin⟩ := h
    have nd := scTouchP.nd
    have hu := hu_of hr
    refine ⟨_, pss_one (ps_ret (pe_callB (id := "any") (r := rAny K) (cr_any (by rfl)) (by rfl) mAny (by decide +kernel) (pa_cons
          (pe_lc (own := [("name", 4)]) (g := gName 4) (tt := tYes) (te := tAndV (tOp (rIn K false) (tVar 4) (tDGet (tVar 0) (tVar 2))) (tOp (rIn K true) (tVar 4) (tDGet (tVar 0) (tVar 3)))) (by rfl) nd (pi_list (pe_dget hu (pv 0) (pv 1) (fun _ _ => rfl))) (blkOk_by (own := [("name", 4)]) (N := NTp) (sc := defScope sTouchPast) (by decide +kernel))
            (fun _ _ _ _ _ => pg_name (i := 4) nd rfl (Or.inl rfl)) (fun _ _ _ _ _ => pts_nil) (fun _ _ _ _ _ => pe_and (pe_cmpR op_in_seq (pv 4) (pe_dget hu (pv 0) (pv 2) (fun _ _ => rfl)) (by rfl)) (pe_one (pe_cmpR op_notIn_seq (pv 4) (pe_dget hu (pv 0) (pv 3) (fun _ _ => rfl)) (by rfl))))) pa_nil))), ?_⟩
    obtain ⟨la, dga, sqa⟩ := own.get dist ha
    have nf := names_few few a
    refine ⟨_, rfl, _, rfl, d, _, rfl, dga, la, rfl, ⟨_, sqa⟩, fun D nD => ?_⟩
    refine walk_list (xs := (namesAt ats a).map V.str) (fun k H7 => Same H H7 ∧ H7 D = some (.lst ((((namesAt ats a).take k).map fun x => decide (x ∈ namesAt ats b) && !decide (x ∈ namesAt ats p)).map V.bl))) ⟨same_new nD, upd_same⟩ (fun k H7 _ h => h.1.seq sqa) ?_ ?_
    · rintro k x H7 hx ⟨sm, hD⟩
      rw [List.getElem?_map] at hx
      obtain ⟨z, hz, rfl⟩ := Option.map_eq_some_iff.mp hx
      have hk : k < (namesAt ats a).length := (List.getElem?_eq_some_iff.mp hz).1
      obtain ⟨lb, dgb, sqb⟩ := (own.same sm).get dist hb
      obtain ⟨lp, dgp, sqp⟩ := (own.same sm).get dist hp
      have add : ∀ r : Bool, r = (decide (z ∈ namesAt ats b) && !decide (z ∈ namesAt ats p)) → H7 D = some (.lst ((((namesAt ats a).take k).map fun x => decide (x ∈ namesAt ats b) && !decide (x ∈ namesAt ats p)).map V.bl)) ∧ ((((namesAt ats a).take k).map fun x => decide (x ∈ namesAt ats b) && !decide (x ∈ namesAt ats p)).map V.bl).length < sizeLine ∧
          (∀ b' o, H b' = some o → upd H7 D (.lst (((((namesAt ats a).take k).map fun x => decide (x ∈ namesAt ats b) && !decide (x ∈ namesAt ats p)).map V.bl) ++ [.bl r])) b' = some o) ∧ upd H7 D (.lst (((((namesAt ats a).take k).map fun x => decide (x ∈ namesAt ats b) && !decide (x ∈ namesAt ats p)).map V.bl) ++ [.bl r])) D = some (.lst ((((namesAt ats a).take (k + 1)).map fun x => decide (x ∈ namesAt ats b) && !decide (x ∈ namesAt ats p)).map V.bl)) := fun r er => by
        refine ⟨hD, ?_, fun b' o e => ?_, ?_⟩
        · rw [List.length_map, List.length_map, List.length_take]
          exact small1000 (by omega)
        · rw [upd_ne (ne_of_none e nD)]
          exact sm _ _ e
        · rw [upd_same, List.take_add_one, hz, er]
          simp
      refine ⟨rfl, ?_⟩
      refine tyes ?_
      refine ⟨_, rfl, _, rfl, _, rfl, d, _, rfl, dgb, lb, _, rfl, .inl sqb, rfl, flat_strs' _, _, rfl, ?_⟩
      rw [if_neg Bool.false_ne_true, inV_str]
      by_cases c : z ∈ namesAt ats b
      · rw [decide_eq_true c]
        refine iteT ⟨_, rfl, _, rfl, _, rfl, d, _, rfl, dgp, lp, _, rfl, .inl sqp, rfl, flat_strs' _, ?_⟩
        rw [if_pos rfl, inV_str]
        obtain ⟨e1, e2, e3, e4⟩ := add (!decide (z ∈ namesAt ats p)) (by rw [decide_eq_true c, Bool.true_and])
        exact ⟨_, e1, e2, e3, e4⟩
      · rw [decide_eq_false c]
        obtain ⟨e1, e2, e3, e4⟩ := add false (by rw [decide_eq_false c, Bool.false_and])
        exact iteF ⟨_, e1, e2, e3, e4⟩
    · rintro H7 ⟨sm, hD⟩
      rw [List.length_map, List.take_length] at hD
      refine ⟨D, _, rfl, SqL.of hD, ?_⟩
      have e : ((namesAt ats a).map fun x => decide (x ∈ namesAt ats b) && !decide (x ∈ namesAt ats p)).any id = twB ats (namesAt ats p) a b := by
        unfold twB
        rw [List.any_map]
        rfl
      rw [e]
      exact fin H7 sm
end
end Cut
set_option Elab.async false
set_option linter.all false
set_option maxRecDepth 100000
set_option maxHeartbeats 8000000
namespace Cut
open PySem PySem.Spec PyProof.Rows L2
/-! ### what chains past a table lead to, as the program finds it -/
def parV (ats : List Atm) : Option Nat → V
  | none => .non
  | some j => .str (tabAt ats j)
def ahK (ats : List Atm) (L : List (Nat × Option Nat)) : List (Key × V) := L.map fun e => (.inr (tabAt ats e.1), parV ats e.2)
structure BInv (ats : List Atm) (W : List Str) (i0 p : Nat) (L : List (Nat × Option Nat)) : Prop where
  nd : (L.map (·.1)).Nodup
  lt : ∀ e ∈ L, e.1 < ats.length
  head : L[0]? = some (i0, none)
  par : ∀ (q : Nat) (e : Nat × Option Nat), L[q]? = some e → q ≠ 0 → ∃ (r : Nat) (c : Nat × Option Nat), r < q ∧ L[r]? = some c ∧ e.2 = some c.1 ∧ TW ats W c.1 e.1
  closed : ∀ (q : Nat) (e : Nat × Option Nat), q < p → L[q]? = some e → ∀ k, k < ats.length → TW ats W e.1 k → k ∈ L.map (·.1)
theorem BInv.few {ats : List Atm} {W : List Str} {i0 p : Nat} {L : List (Nat × Option Nat)} (h : BInv ats W i0 p L) : L.length ≤ ats.length := by
  have := few_below (n := ats.length) h.nd fun k hk => by
    obtain ⟨e, he, rfl⟩ := List.mem_map.mp hk
    exact h.lt e he
  rw [List.length_map] at this
  exact this
theorem BInv.push {ats : List Atm} {W : List Str} {i0 p k : Nat} {L : List (Nat × Option Nat)} {c : Nat × Option Nat} (h : BInv ats W i0 p L) (hc : L[p]? = some c) (hk : k ∉ L.map (·.1)) (lk : k < ats.length) (t : TW ats W c.1 k) : BInv ats W i0 p (L ++ [(k, some c.1)]) := by
  have hp := (List.getElem?_eq_some_iff.mp hc).1
  refine ⟨?_, fun e he => ?_, ?_, fun q e hq q0 => ?_, fun q e hq he m hm tm => ?_⟩
  · rw [List.map_append, List.nodup_append]
    refine ⟨h.nd, by simp, fun a ha b hb e => ?_⟩
    have hb : b = k := by simpa using hb
    rw [hb] at e
    rw [e] at ha
    exact hk ha
  · rcases List.mem_append.mp he with he | he
    · exact h.lt e he
    · have : e = (k, some c.1) := by simpa using he
      rw [this]
      exact lk
  · rw [List.getElem?_append_left (by omega)]
    exact h.head
  · by_cases c1 : q < L.length
    · rw [List.getElem?_append_left c1] at hq
      obtain ⟨r, c', hr, h1, h2, h3⟩ := h.par q e hq q0
      exact ⟨r, c', hr, by rw [List.getElem?_append_left (by omega)]; exact h1, h2, h3⟩
    · have hl := (List.getElem?_eq_some_iff.mp hq).1
      rw [List.length_append] at hl
      have hl : q < L.length + 1 := hl
      have e1 : q = L.length := by omega
      rw [e1, List.getElem?_append_right (Nat.le_refl _), Nat.sub_self] at hq
      have e2 : e = (k, some c.1) := by simpa using hq.symm
      rw [e2]
      exact ⟨p, c, by omega, by rw [List.getElem?_append_left hp]; exact hc, rfl, t⟩
  · rw [List.getElem?_append_left (by omega)] at he
    rw [List.map_append]
    exact List.mem_append_left _ (h.closed q e hq he m hm tm)
theorem BInv.next {ats : List Atm} {W : List Str} {i0 p : Nat} {L : List (Nat × Option Nat)} {c : Nat × Option Nat} (h : BInv ats W i0 p L) (hc : L[p]? = some c) (all : ∀ k, k < ats.length → TW ats W c.1 k → k ∈ L.map (·.1)) : BInv ats W i0 (p + 1) L :=
  ⟨h.nd, h.lt, h.head, h.par, fun q e hq he => by
    by_cases c1 : q = p
    · rw [c1, hc] at he
      cases he
      exact all
    · exact h.closed q e (by omega) he⟩
theorem BInv.sound {ats : List Atm} {W : List Str} {i0 p : Nat} {L : List (Nat × Option Nat)} (h : BInv ats W i0 p L) : ∀ (n q : Nat) (e : Nat × Option Nat), q ≤ n → L[q]? = some e → CW ats W i0 e.1
  | n, q, e, hq, he => by
    have le := h.lt e (List.mem_of_getElem? he)
    by_cases q0 : q = 0
    · rw [q0, h.head] at he
      cases he
      exact .refl le
    · obtain ⟨r, c, hr, h1, h2, h3⟩ := h.par q e he q0
      match n, hq with
      | 0, hq => omega
      | n + 1, hq => exact .step (h.sound n r c (by omega) h1) h3 le
theorem BInv.done {ats : List Atm} {W : List Str} {i0 p : Nat} {L : List (Nat × Option Nat)} (h : BInv ats W i0 p L) (hp : L.length ≤ p) (k : Nat) : k ∈ L.map (·.1) ↔ CW ats W i0 k :=
  closedW (S := fun k => k ∈ L.map (·.1)) (by
      have := List.mem_of_getElem? h.head
      exact List.mem_map.mpr ⟨_, this, rfl⟩) (fun k hk => by
      obtain ⟨e, he, rfl⟩ := List.mem_map.mp hk
      obtain ⟨q, hq, eq⟩ := List.getElem_of_mem he
      exact h.sound q q e (Nat.le_refl _) (by rw [List.getElem?_eq_getElem hq, eq])) (fun j k hj t l => by
      obtain ⟨e, he, rfl⟩ := List.mem_map.mp hj
      obtain ⟨q, hq, eq⟩ := List.getElem_of_mem he
      exact h.closed q e (by omega) (by rw [List.getElem?_eq_getElem hq, eq]) k l t) k
theorem ah_val {ats : List Atm} (nd : (ats.map (·.1)).Nodup) {k : Nat} (hk : k < ats.length) : ∀ {L : List (Nat × Option Nat)}, (∀ e ∈ L, e.1 < ats.length) → (k ∉ L.map (·.1) → valV (ahK ats L) (.inr (tabAt ats k)) = none) ∧ ∀ o, (L.map (·.1)).Nodup → (k, o) ∈ L → valV (ahK ats L) (.inr (tabAt ats k)) = some (parV ats o)
  | [], _ => ⟨fun _ => rfl, fun o _ h => by simp at h⟩
  | (j, o') :: r, lt => by
    have ih := ah_val nd hk (L := r) fun e he => lt e (List.mem_cons_of_mem _ he)
    have lj : j < ats.length := lt (j, o') List.mem_cons_self
    have step : valV (ahK ats ((j, o') :: r)) (.inr (tabAt ats k)) = if (Sum.inr (tabAt ats j) : Key) = .inr (tabAt ats k) then some (parV ats o') else valV (ahK ats r) (.inr (tabAt ats k)) := by
      show valV ((Sum.inr (tabAt ats j), parV ats o') :: ahK ats r) _ = _
      rw [val_cons]
    refine ⟨fun n => ?_, fun o ndL h => ?_⟩
    · rw [List.map_cons, List.mem_cons, not_or] at n
      rw [step, if_neg fun z => n.1 (tab_inj nd hk lj (Sum.inr.inj z).symm)]
      exact ih.1 n.2
    · rw [List.map_cons] at ndL
      obtain ⟨n1, n2⟩ := List.nodup_cons.mp ndL
      rcases List.mem_cons.mp h with h | h
      · cases h
        rw [step, if_pos rfl]
      · rw [step, if_neg fun z => n1 (by
          have := tab_inj nd hk lj (Sum.inr.inj z).symm
          rw [← this]
          exact List.mem_map.mpr ⟨_, h, rfl⟩)]
        exact ih.2 o n2 h
/-- what stands in memory -/
structure AhAt (H : Hp) (a : Addr) (ats : List Atm) (W : List Str) (i0 : Nat) (L : List (Nat × Option Nat)) : Prop where
  at_ : H a = some (.dK (ahK ats L))
  inv : BInv ats W i0 L.length L
abbrev NRp : List Str := ["names", "start", "past", "ahead", "waiting", "table", "other"]
theorem scReachP : FnScope NRp ["names", "start", "past"] (defScope sReachedPast) := ⟨rfl, rfl, rfl, by decide +kernel, rfl, by decide +kernel, by decide +kernel⟩
section
variable {P : Program} {w : World} {K : PySem.W.Frag} {mg : Str → Option Value} {base : Heap}
def spReachP (K : PySem.W.Frag) : Sp := fun vs H Q _ => ∃ (d : Addr) (ats : List Atm) (i0 p : Nat), vs = [.ref d, .str (tabAt ats i0), .str (tabAt ats p)] ∧ OwnAt K H d ats ∧ Few ats ∧ (ats.map (·.1)).Nodup ∧ i0 < ats.length ∧ p < ats.length ∧
  ∀ (H' : Hp) (a : Addr) (L : List (Nat × Option Nat)), Same H H' → H a = none → AhAt H' a ats (namesAt ats p) i0 L → Q (.ref a) H'
theorem ok_reachP {f fT : Addr} {fd fdT : FuncData} (F : Fun K "_reached_past" "_reached_past" sReachedPast f fd) (B : Blt mg) (FT : Fun K "_touch_past" "_touch_past" sTouchPast fT fdT) (bT : Binds K fdT ["names", "one", "other", "past"] []) (gT : mg "_touch_past" = some (.ref fT))
    (GT : FnOk P w K mg base CX0 1 fT fdT ["names", "one", "other", "past"] (spTouchP K)) : FnOk P w K mg base CX0 2 f fd ["names", "start", "past"] (spReachP K) := by
  refine F.ok scReachP (fun vs H Q E h => ?_) (fun cdv A outer s H vs Q E hr h => ?_)
  · obtain ⟨d, ats, i0, p, rfl, _⟩ := h
    rfl
  · obtain ⟨d, ats, i0, ip, rfl, own, few, dist, hi0, hip, fin⟩ := h
    have nd := scReachP.nd
    have hu := hu_of hr
    have fm := few.many
    refine ⟨_, pss_cons (ps_set (i := 3) nd rfl (.inl rfl) (pe_disp (pps_cons (pv 1) pe_non pps_nil) rfl rfl (by decide) (by decide)))
      (pss_cons (ps_set (i := 4) nd rfl (.inl rfl) (pe_lst (pa_cons (pv 1) pa_nil)))
      (pss_cons (ps_lock (ps_while PassesOwn.never (pt_truth (pv 4) (fun _ => rfl))
        (pss_cons (ps_set (i := 5) nd rfl (.inl rfl) (pe_bm PySem.F.plainAttrs_list PySem.F.slot_list_pop PySem.F.type_list_pop mt_popAt (pv 4) (pa_cons pe_int pa_nil)))
        (pss_one (ps_for PassesOwn.never rfl (pi_keys (pv 0)) (pg_name (i := 6) nd rfl (.inl rfl))
          (pss_one (ps_if (PW.pt (pw_and (pt_cmp (pc_dnotin hu (pv 6) (pv 3))) (pw_and1 (pt_val (pe_call GT hr (by rfl) gT FT.kp bT .nil pass0 (pa_cons (pv 0) (pa_cons (pv 5) (pa_cons (pv 6) (pa_cons (pv 2) pa_nil)))))))))
            (pss_cons (ps_asg (pv 5) (pg_sub (pv 3) (pv 6) (set_dict hu)))
            (pss_one (ps_expr (pe_bm PySem.F.plainAttrs_list PySem.F.slot_list_append PySem.F.type_list_append mt_append (pv 4) (pa_cons (pv 6) pa_nil))))) pss_nil)))))))
      (pss_one (ps_ret (pv 3))))), ?_⟩
    have ln : ∀ n : Nat, n ≤ 1000 → n ≤ sizeLine := fun n h => Nat.le_of_lt (small1000 h)
    refine fun A0 nA => ⟨_, rfl, upd_same, [(.inr (tabAt ats i0), .non)], rfl, by show 1 ≤ 15; decide, ?_⟩
    have sA : Same H (upd (upd H A0 (.dK [])) A0 (.dK (mergeK [] [(.inr (tabAt ats i0), .non)]))) := fun b o e => by
      rw [upd_ne (ne_of_none e nA), upd_ne (ne_of_none e nA)]
      exact e
    have hA : upd (upd H A0 (.dK [])) A0 (.dK (mergeK [] [(.inr (tabAt ats i0), .non)])) A0 = some (.dK (ahK ats [(i0, none)])) := upd_same
    generalize upd (upd H A0 (.dK [])) A0 (.dK (mergeK [] [(.inr (tabAt ats i0), .non)])) = Ha at sA hA ⊢
    refine ⟨_, rfl, ln 1 (by decide), fun Wt nW => ?_⟩
    have sW := sA.trans (same_new (o := .lst [.str (tabAt ats i0)]) nW)
    have hA1 := at_new (u := .lst [.str (tabAt ats i0)]) hA nW
    have hW1 : upd Ha Wt (.lst [.str (tabAt ats i0)]) Wt = some (.lst [.str (tabAt ats i0)]) := upd_same
    have AW : A0 ≠ Wt := ne_of_none hA nW
    have nWH : H Wt = none := sA.free nW
    generalize upd Ha Wt (.lst [.str (tabAt ats i0)]) = Hb at sW hA1 hW1 ⊢
    obtain ⟨kvs, hd, pk⟩ := own
    have dA : d ≠ A0 := ne_of_none hd nA
    have dW : d ≠ Wt := ne_of_none hd nWH
    refine ⟨d, .dK kvs, sW _ _ hd, trivial, fun od => ?_⟩
    have ownL : OwnF K (upd H d (.frz od (.dK kvs))) d od kvs ats := ⟨upd_same, paired_mono (fun kv t y => by
      obtain ⟨y1, l, y2, y3⟩ := y
      exact ⟨y1, l, y2, seqL_off y3 hd⟩) pk⟩
    have nAL : upd H d (.frz od (.dK kvs)) A0 = none := by rw [upd_ne dA.symm]; exact nA
    have nWL : upd H d (.frz od (.dK kvs)) Wt = none := by rw [upd_ne dW.symm]; exact nWH
    have sL0 : Same (upd H d (.frz od (.dK kvs))) (upd Hb d (.frz od (.dK kvs))) := fun b o e => by
      by_cases c : b = d
      · rw [c] at e ⊢
        rw [upd_same] at e ⊢
        exact e
      · rw [upd_ne c] at e ⊢
        exact sW _ _ e
    have hA0 : upd Hb d (.frz od (.dK kvs)) A0 = some (.dK (ahK ats [(i0, none)])) := by rw [upd_ne dA.symm]; exact hA1
    have hW0 : upd Hb d (.frz od (.dK kvs)) Wt = some (.lst [.str (tabAt ats i0)]) := by rw [upd_ne dW.symm]; exact hW1
    have unl : ∀ {H' : Hp}, Same (upd H d (.frz od (.dK kvs))) H' → Same H (upd H' d (.dK kvs)) := fun {H'} s => same_unlock hd s
    generalize hHL : upd H d (.frz od (.dK kvs)) = HL at ownL nAL nWL sL0 unl ⊢
    generalize upd Hb d (.frz od (.dK kvs)) = H0 at sL0 hA0 hW0 ⊢
    refine ⟨fun m σ H1 => ∃ (L : List (Nat × Option Nat)) (p : Nat) (x5 x6 : Option V), σ = [some (.ref d), some (.str (tabAt ats i0)), some (.str (tabAt ats ip)), some (.ref A0), some (.ref Wt), x5, x6] ∧ Same HL H1 ∧ H1 A0 = some (.dK (ahK ats L)) ∧ H1 Wt = some (.lst (tabsV ats ((L.drop p).map (·.1)))) ∧ BInv ats (namesAt ats ip) i0 p L ∧ p ≤ L.length ∧ m = ats.length - p,
      ⟨ats.length, [(i0, none)], 0, none, none, rfl, sL0, hA0, hW0, ⟨by simp, fun e he => by rw [List.mem_singleton.mp he]; exact hi0, rfl, fun q e hq q0 => by
        have := (List.getElem?_eq_some_iff.mp hq).1
        have : q < 1 := this
        omega, fun q e hq => absurd hq (Nat.not_lt_zero q)⟩, Nat.zero_le _, rfl⟩, fun m σ H1 hW => ?_⟩
    obtain ⟨L, p, x5, x6, rfl, s1, hA, hWt, inv, pl, rfl⟩ := hW
    have fl := inv.few
    refine ⟨_, rfl, _, .inl ⟨_, SqL.of hWt, rfl⟩, ?_⟩
    by_cases c : p < L.length
    · obtain ⟨e0, he0⟩ : ∃ e0, L[p]? = some e0 := ⟨_, List.getElem?_eq_getElem c⟩
      have lj0 := inv.lt e0 (List.mem_of_getElem? he0)
      have dr : L.drop p = e0 :: L.drop (p + 1) := by
        rw [List.drop_eq_getElem_cons c]
        rw [(List.getElem?_eq_some_iff.mp he0).2]
      rw [dr] at hWt ⊢
      have dr2 : tabsV ats ((e0 :: L.drop (p + 1)).map (·.1)) = .str (tabAt ats e0.1) :: tabsV ats ((L.drop (p + 1)).map (·.1)) := rfl
      rw [dr2] at hWt ⊢
      refine iteT ⟨fun σ' H' => ∃ (L : List (Nat × Option Nat)) (x5 x6 : Option V), σ' = [some (.ref d), some (.str (tabAt ats i0)), some (.str (tabAt ats ip)), some (.ref A0), some (.ref Wt), x5, x6] ∧ Same HL H' ∧ H' A0 = some (.dK (ahK ats L)) ∧ H' Wt = some (.lst (tabsV ats ((L.drop (p + 1)).map (·.1)))) ∧ BInv ats (namesAt ats ip) i0 (p + 1) L ∧ p + 1 ≤ L.length, fun σ' H' hN => ?_, ?_⟩
      · obtain ⟨L', x5', x6', e, a1, a2, a3, a4, a5⟩ := hN
        exact ⟨ats.length - (p + 1), by omega, L', p + 1, x5', x6', e, a1, a2, a3, a4, a5, rfl⟩
      · have ix := idx_nat (r := 0) (n := (V.str (tabAt ats e0.1) :: tabsV ats ((L.drop (p + 1)).map (·.1))).length) (by decide) (by rw [List.length_cons]; omega)
        refine ⟨_, rfl, .inl ⟨rfl, _, SqL.of hWt⟩, Wt, _, 0, 0, _, rfl, rfl, hWt, by decide, by decide, ix.1, rfl, ?_⟩
        have s2 : Same HL (L2.upd H1 Wt (.lst (tabsV ats ((L.drop (p + 1)).map (·.1))))) := fun b o e => by
          rw [upd_ne (ne_of_none e nWL)]
          exact s1 _ _ e
        have hA2 : L2.upd H1 Wt (.lst (tabsV ats ((L.drop (p + 1)).map (·.1)))) A0 = some (.dK (ahK ats L)) := by rw [upd_ne AW]; exact hA
        have hW2 : L2.upd H1 Wt (.lst (tabsV ats ((L.drop (p + 1)).map (·.1)))) Wt = some (.lst (tabsV ats ((L.drop (p + 1)).map (·.1)))) := upd_same
        rw [List.eraseIdx_cons_zero]
        generalize L2.upd H1 Wt (.lst (tabsV ats ((L.drop (p + 1)).map (·.1)))) = H2 at s2 hA2 hW2 ⊢
        refine ⟨_, rfl, d, od, rfl, .inl ⟨kvs, s2 _ _ ownL.at_, ?_⟩⟩
        refine for_keys (fun i σ H' => ∃ (L : List (Nat × Option Nat)) (x6 : Option V), σ = [some (.ref d), some (.str (tabAt ats i0)), some (.str (tabAt ats ip)), some (.ref A0), some (.ref Wt), some (.str (tabAt ats e0.1)), x6] ∧ Same HL H' ∧ H' A0 = some (.dK (ahK ats L)) ∧ H' Wt = some (.lst (tabsV ats ((L.drop (p + 1)).map (·.1)))) ∧ BInv ats (namesAt ats ip) i0 p L ∧ L[p]? = some e0 ∧ ∀ k, k < i → k < ats.length → TW ats (namesAt ats ip) e0.1 k → k ∈ L.map (·.1))
          ⟨L, x6, rfl, s2, hA2, hW2, inv, he0, fun k hk => absurd hk (Nat.not_lt_zero k)⟩ (fun i σ H' _ h => by obtain ⟨_, _, _, sm, _⟩ := h; exact sm _ _ ownL.at_) ?_ ?_
        · rintro i k v σ H' hk ⟨L, x6, rfl, sm, hA, hWt, inv, he0, all⟩
          obtain ⟨hi, ek⟩ := (ownL.same sm).key hk
          rw [ek]
          have fl := inv.few
          have hp := (List.getElem?_eq_some_iff.mp he0).1
          obtain ⟨av1, av2⟩ := ah_val dist hi (L := L) inv.lt
          refine ⟨_, rfl, _, rfl, A0, _, rfl, DGet.k (k := .inr (tabAt ats i)) hA, _, rfl, ?_⟩
          by_cases hF : i ∈ L.map (·.1)
          · obtain ⟨e1, he1, hx⟩ := List.mem_map.mp hF
            have hx : e1 = (i, e1.2) := by rw [← hx]
            rw [av2 e1.2 inv.nd (by rw [← hx]; exact he1)]
            refine iteF (iteF ⟨L, _, rfl, sm, hA, hWt, inv, he0, fun k hk hk2 t => ?_⟩)
            by_cases e : k = i
            · rw [e]; exact hF
            · exact all k (by omega) hk2 t
          · rw [av1 hF]
            refine iteT ?_
            refine ⟨_, rfl, _, rfl, _, rfl, _, rfl, d, ats, e0.1, i, ip, rfl, (ownL.same sm).q, few, dist, lj0, hi, hip, fun H9 s9 => ⟨_, rfl, ?_⟩⟩
            have sm9 := sm.trans s9
            have hA9 := s9 _ _ hA
            have hW9 := s9 _ _ hWt
            cases hte : twB ats (namesAt ats ip) e0.1 i with
            | false =>
              refine iteF ⟨L, _, rfl, sm9, hA9, hW9, inv, he0, fun k hk hk2 t => ?_⟩
              by_cases e : k = i
              · rw [e] at t
                rw [twB_iff.mpr t] at hte
                cases hte
              · exact all k (by omega) hk2 t
            | true =>
              have t := twB_iff.mp hte
              refine iteT ?_
              have inv2 := inv.push he0 hF hi t
              refine ⟨_, rfl, _, rfl, _, rfl, A0, _, rfl, DPut.k (k := .inr (tabAt ats i)) hA9 ?_, ?_⟩
              · unfold ahK
                rw [List.length_map]
                exact small1000 (by omega)
              rw [putK_new _ (av1 hF)]
              have sB : Same HL (L2.upd H9 A0 (.dK (ahK ats L ++ [(.inr (tabAt ats i), .str (tabAt ats e0.1))]))) := fun b o e => by
                rw [upd_ne (ne_of_none e nAL)]
                exact sm9 _ _ e
              have hAB : L2.upd H9 A0 (.dK (ahK ats L ++ [(.inr (tabAt ats i), .str (tabAt ats e0.1))])) A0 = some (.dK (ahK ats (L ++ [(i, some e0.1)]))) := by
                rw [upd_same]
                unfold ahK
                rw [List.map_append]
                rfl
              have hWB : L2.upd H9 A0 (.dK (ahK ats L ++ [(.inr (tabAt ats i), .str (tabAt ats e0.1))])) Wt = some (.lst (tabsV ats ((L.drop (p + 1)).map (·.1)))) := by rw [upd_ne AW.symm]; exact hW9
              generalize L2.upd H9 A0 (.dK (ahK ats L ++ [(.inr (tabAt ats i), .str (tabAt ats e0.1))])) = HB at sB hAB hWB ⊢
              refine ⟨_, rfl, .inl ⟨rfl, _, SqL.of hWB⟩, _, rfl, Wt, _, _, rfl, rfl, hWB, ?_, L ++ [(i, some e0.1)], _, rfl, ?_, ?_, ?_, inv2, ?_, fun k hk hk2 t2 => ?_⟩
              · unfold tabsV
                rw [List.length_map, List.length_map, List.length_drop]
                exact small1000 (by omega)
              · exact fun b u e => by rw [upd_ne (ne_of_none e nWL)]; exact sB _ _ e
              · rw [upd_ne AW]
                exact hAB
              · rw [upd_same, List.drop_append_of_le_length (by omega), List.map_append]
                unfold tabsV
                rw [List.map_append]
                rfl
              · rw [List.getElem?_append_left hp]
                exact he0
              · rw [List.map_append]
                by_cases e : k = i
                · rw [e]; exact List.mem_append_right _ (List.mem_singleton.mpr rfl)
                · exact List.mem_append_left _ (all k (by omega) hk2 t2)
        · rintro σ H' ⟨L, x6, rfl, sm, hA, hWt, inv, he0, all⟩
          have lk := paired_len ownL.own
          have hp := (List.getElem?_eq_some_iff.mp he0).1
          exact ⟨L, _, _, rfl, sm, hA, hWt, inv.next he0 fun k hk t => all k (by omega) hk t, by omega⟩
    · have dn : L.drop p = [] := List.drop_eq_nil_of_le (by omega)
      rw [dn]
      refine iteF ⟨s1 _ _ ownL.at_, _, rfl, ?_⟩
      refine fin _ A0 L (unl s1) nA ⟨?_, inv.nd, inv.lt, inv.head, inv.par, fun q e hq => inv.closed q e (by omega)⟩
      rw [upd_ne dA.symm]
      exact hA
end
end Cut
set_option Elab.async false
set_option linter.all false
set_option maxRecDepth 100000
set_option maxHeartbeats 8000000
namespace Cut
open PySem PySem.Spec PyProof.Rows L2
/-! ### for each table that is led past, and each start, what is reached -/
def KD (G : Nat → Addr → Prop) (H : Hp) (R : Addr) (ats : List Atm) (T : List Nat) : Prop := ∃ kvs : List (Key × V), H R = some (.dK kvs) ∧ Paired (fun kv j => kv.1 = Sum.inr (tabAt ats j) ∧ ∃ a, kv.2 = .ref a ∧ G j a) kvs T
theorem KD.mono {G G' : Nat → Addr → Prop} {H H' : Hp} {R : Addr} {ats : List Atm} {T : List Nat} (x : KD G H R ats T) (e : ∀ kvs : List (Key × V), H R = some (.dK kvs) → H' R = some (.dK kvs)) (g : ∀ j a, G j a → G' j a) : KD G' H' R ats T :=
  let ⟨kvs, h1, h2⟩ := x; ⟨kvs, e _ h1, paired_mono (fun _ _ y => let ⟨y1, a, y2, y3⟩ := y; ⟨y1, a, y2, g _ _ y3⟩) h2⟩
theorem KD.get {G : Nat → Addr → Prop} {H : Hp} {R : Addr} {ats : List Atm} {T : List Nat} (x : KD G H R ats T) (nd : (ats.map (·.1)).Nodup) (lt : ∀ k ∈ T, k < ats.length) (ndT : T.Nodup) {j : Nat} (hj : j ∈ T) :
    ∃ a, DGet H R (.str (tabAt ats j)) (some (.ref a)) ∧ G j a := by
  obtain ⟨kvs, h1, h2⟩ := x
  suffices g : ∀ {kvs : List (Key × V)} {L : List Nat}, Paired (fun kv j => kv.1 = Sum.inr (tabAt ats j) ∧ ∃ a, kv.2 = .ref a ∧ G j a) kvs L → L.Nodup → (∀ k ∈ L, k < ats.length) → j ∈ L → ∃ a, valV kvs (.inr (tabAt ats j)) = some (.ref a) ∧ G j a by
    obtain ⟨a, e, ha⟩ := g h2 ndT lt hj
    have z := DGet.k (k := .inr (tabAt ats j)) h1
    rw [e] at z
    exact ⟨a, z, ha⟩
  intro kvs L p
  induction p with
  | nil => intro _ _ h; simp at h
  | @cons kv k kvs L f r ih =>
    intro ndL lt h
    obtain ⟨n1, n2⟩ := List.nodup_cons.mp ndL
    obtain ⟨y1, m, y2, y3⟩ := f
    obtain ⟨k0, v0⟩ := kv
    have y1 : k0 = Sum.inr (tabAt ats k) := y1
    have y2 : v0 = .ref m := y2
    by_cases c : k = j
    · subst c
      exact ⟨m, by rw [val_cons, if_pos y1, y2], y3⟩
    · have hj : j ∈ L := by
        rcases List.mem_cons.mp h with e | e
        · exact absurd e.symm c
        · exact e
      obtain ⟨a, e, ha⟩ := ih n2 (fun k hk => lt k (List.mem_cons_of_mem _ hk)) hj
      refine ⟨a, ?_, ha⟩
      rw [val_cons, if_neg (fun z => c (tab_inj nd (lt k List.mem_cons_self) (lt j h) (Sum.inr.inj (y1.symm.trans z))))]
      exact e
theorem kd_new {G : Nat → Addr → Prop} {ats : List Atm} (nd : (ats.map (·.1)).Nodup) {kvs : List (Key × V)} {L : List Nat} {j : Nat} (p : Paired (fun kv j => kv.1 = Sum.inr (tabAt ats j) ∧ ∃ a, kv.2 = .ref a ∧ G j a) kvs L) (lt : ∀ k ∈ L, k < ats.length) (hj : j < ats.length) (h : j ∉ L) : valV kvs (.inr (tabAt ats j)) = none := by
  induction p with
  | nil => rfl
  | @cons kv k kvs L f r ih =>
    obtain ⟨y1, m, y2, y3⟩ := f
    obtain ⟨k0, v0⟩ := kv
    have y1 : k0 = Sum.inr (tabAt ats k) := y1
    rw [List.mem_cons, not_or] at h
    rw [val_cons, if_neg (fun z => h.1 (tab_inj nd hj (lt k List.mem_cons_self) (Sum.inr.inj (z.symm.trans y1))))]
    exact ih (fun k hk => lt k (List.mem_cons_of_mem _ hk)) h.2
theorem fresh_nd {L : List Nat} (nd : L.Nodup) {k j : Nat} (hj : L[k]? = some j) : j ∉ L.take k := fun m => by
  obtain ⟨a, ha, e⟩ := List.getElem_of_mem m
  rw [List.length_take] at ha
  rw [List.getElem_take] at e
  obtain ⟨hk, e2⟩ := List.getElem?_eq_some_iff.mp hj
  have := nodup_inj nd (by omega) hk (e.trans e2.symm)
  omega
theorem AhAt.same {H H' : Hp} {a : Addr} {ats : List Atm} {W : List Str} {i0 : Nat} {L : List (Nat × Option Nat)} (x : AhAt H a ats W i0 L) (e : Same H H') : AhAt H' a ats W i0 L := ⟨e _ _ x.at_, x.inv⟩
def InG (G0 H : Hp) (ats : List Atm) (p s : Nat) (a : Addr) : Prop := G0 a = none ∧ ∃ L, AhAt H a ats (namesAt ats p) s L
theorem InG.same {G0 H H' : Hp} {ats : List Atm} {p s : Nat} {a : Addr} (x : InG G0 H ats p s a) (e : Same H H') : InG G0 H' ats p s a := let ⟨h0, L, h⟩ := x; ⟨h0, L, h.same e⟩
theorem InG.put {G0 H : Hp} {ats : List Atm} {p s : Nat} {a D : Addr} {o u : HO} (x : InG G0 H ats p s a) (e : G0 D = some o) : InG G0 (upd H D u) ats p s a := by
  obtain ⟨h0, L, h⟩ := x
  exact ⟨h0, L, by rw [upd_ne (fun z => by rw [z, e] at h0; cases h0)]; exact h.at_, h.inv⟩
def InK (G0 H : Hp) (ats : List Atm) (T : List Nat) (p : Nat) (r : Addr) : Prop := G0 r = none ∧ KD (InG G0 H ats p) H r ats T
theorem InK.same {G0 H H' : Hp} {ats : List Atm} {T : List Nat} {p : Nat} {r : Addr} (x : InK G0 H ats T p r) (e : Same H H') : InK G0 H' ats T p r := ⟨x.1, x.2.mono (fun _ h => e _ _ h) fun _ _ y => y.same e⟩
theorem InK.put {G0 H : Hp} {ats : List Atm} {T : List Nat} {p : Nat} {r D : Addr} {o u : HO} (x : InK G0 H ats T p r) (e : G0 D = some o) : InK G0 (upd H D u) ats T p r :=
  ⟨x.1, x.2.mono (fun _ h => by rw [upd_ne (fun z => by have := x.1; rw [z, e] at this; cases this)]; exact h) fun _ _ y => y.put e⟩
/-- what stands in memory -/
def RchAt (H : Hp) (R : Addr) (ats : List Atm) (T : List Nat) : Prop := KD (fun p r => KD (fun s a => ∃ L, AhAt H a ats (namesAt ats p) s L) H r ats T) H R ats T
theorem RchAt.same {H H' : Hp} {R : Addr} {ats : List Atm} {T : List Nat} (x : RchAt H R ats T) (e : Same H H') : RchAt H' R ats T :=
  x.mono (fun _ h => e _ _ h) fun _ _ y => y.mono (fun _ h => e _ _ h) fun _ _ ⟨L, z⟩ => ⟨L, z.same e⟩
theorem RchAt.get {H : Hp} {R : Addr} {ats : List Atm} {T : List Nat} (x : RchAt H R ats T) (nd : (ats.map (·.1)).Nodup) (lt : ∀ k ∈ T, k < ats.length) (ndT : T.Nodup) {p s : Nat} (hp : p ∈ T) (hs : s ∈ T) :
    ∃ r a L, DGet H R (.str (tabAt ats p)) (some (.ref r)) ∧ DGet H r (.str (tabAt ats s)) (some (.ref a)) ∧ AhAt H a ats (namesAt ats p) s L := by
  obtain ⟨r, g1, k1⟩ := KD.get x nd lt ndT hp
  obtain ⟨a, g2, L, h⟩ := KD.get k1 nd lt ndT hs
  exact ⟨r, a, L, g1, g2, h⟩
/-- whether an end is reached -/
theorem AhAt.has {H : Hp} {a : Addr} {ats : List Atm} {p s e : Nat} {L : List (Nat × Option Nat)} (x : AhAt H a ats (namesAt ats p) s L) (nd : (ats.map (·.1)).Nodup) (he : e < ats.length) : ∃ o, DGet H a (.str (tabAt ats e)) o ∧ o.isSome = cwB ats p s e := by
  refine ⟨_, DGet.k (k := .inr (tabAt ats e)) x.at_, ?_⟩
  have d := x.inv.done (Nat.le_refl _) e
  obtain ⟨v1, v2⟩ := ah_val nd he (L := L) x.inv.lt
  by_cases c : e ∈ L.map (·.1)
  · rw [cwB_iff.mpr (d.mp c)]
    obtain ⟨en, hen, rfl⟩ := List.mem_map.mp c
    rw [v2 en.2 x.inv.nd hen]
    rfl
  · rw [cwB_false.mpr fun z => c (d.mpr z), v1 c]
    rfl
abbrev NRa : List Str := ["question", "tables", "names", "start", "past"]
theorem scReachA : FnScope NRa ["question", "tables"] (defScope sReachedAll) := ⟨rfl, rfl, rfl, by decide +kernel, rfl, by decide +kernel, by decide +kernel⟩
def compScope : Expr → Scope
  | .DictComp _ _ _ sc _ => sc
  | .ListComp _ _ sc _ => sc
  | _ => defScope sReachedAll
def retExpr : Stmt → Expr
  | .Return (some e) _ => e
  | _ => .Constant .none 0 ⟨0, 0, 0, 0⟩
def scRa : Scope := compScope (retExpr ((defBody sReachedAll).getD 1 (.Pass ⟨0, 0, 0, 0⟩)))
section
variable {P : Program} {w : World} {K : PySem.W.Frag} {mg : Str → Option Value} {base : Heap}
def spReachA (K : PySem.W.Frag) : Sp := fun vs H Q _ => ∃ (q tl : Addr) (head : List Str) (ats : List Atm) (T : List Nat), vs = [.ref q, .ref tl] ∧ QAt K H q head ats ∧ Few ats ∧ (ats.map (·.1)).Nodup ∧ SqT K H tl (tabsV ats T) ∧ T.Nodup ∧ (∀ k ∈ T, k < ats.length) ∧
  ∀ (H' : Hp) (R : Addr), Same H H' → H R = none → RchAt H' R ats T → Q (.ref R) H'
theorem ok_reachA {f fN fR : Addr} {fd fdN fdR : FuncData} (F : Fun K "_reached" "_reached" sReachedAll f fd) (B : Blt mg)
    (FN : Fun K "names_by_table" "names_by_table" sNamesBy fN fdN) (bN : Binds K fdN ["question"] []) (gN : mg "names_by_table" = some (.ref fN)) (GN : FnOk P w K mg base CX0 2 fN fdN ["question"] (spOwn K))
    (FR : Fun K "_reached_past" "_reached_past" sReachedPast fR fdR) (bR : Binds K fdR ["names", "start", "past"] []) (gR : mg "_reached_past" = some (.ref fR)) (GR : FnOk P w K mg base CX0 2 fR fdR ["names", "start", "past"] (spReachP K)) :
    FnOk P w K mg base CX0 3 f fd ["question", "tables"] (spReachA K) := by
  refine F.ok scReachA (fun vs H Q E h => ?_) (fun cdv A outer s H vs Q E hr h => ?_)
  · obtain ⟨q, tl, head, ats, T, rfl, _⟩ := h
    rfl
  · obtain ⟨q, tl, head, ats, T, rfl, hq, few, dist, htl, ndT, lt, fin⟩ := h
    have nd := scReachA.nd
    have fm := few.many
    have lT := few_below ndT lt
    refine ⟨_, pss_cons (ps_set (i := 2) nd rfl (.inr rfl) (pe_call GN hr (by rfl) gN FN.kp bN .nil pass0 (pa_cons (pv 0) pa_nil)))
      (pss_one (ps_ret (pe_dc (own := [("past", 4)]) (g := gName 4) (tt := tYes) (tk := tVar 4) (tv := tDc (iTup K (tVar 1)) (gName 3) tYes (tVar 3) (tCall (spReachP K) [] E0 (tCons (tVar 2) (tCons (tVar 3) (tCons (tVar 4) tNil)))) [3]) (by rfl) nd (pi_tup (pv 1)) (blkOk_by (own := [("past", 4)]) (N := NRa) (sc := defScope sReachedAll) (by decide +kernel))
        (fun _ _ _ _ _ => pg_name (i := 4) nd rfl (Or.inr rfl)) (fun _ _ _ _ _ => pts_nil) (fun _ _ _ _ _ => pv 4)
        (fun _ _ _ _ _ => pe_dc (own := [("start", 3)]) (g := gName 3) (tt := tYes) (by rfl) nd (pi_tup (pv 1)) (blkOk_by (own := [("start", 3)]) (N := NRa) (sc := relS scRa (defScope sReachedAll)) (by decide +kernel))
          (fun _ _ _ _ _ => pg_name (i := 3) nd rfl (Or.inl rfl)) (fun _ _ _ _ _ => pts_nil) (fun _ _ _ _ _ => pv 3) (fun _ _ _ _ _ => pe_call GR hr (by rfl) gR FR.kp bR .nil pass0 (pa_cons (pv 2) (pa_cons (pv 3) (pa_cons (pv 4) pa_nil)))))))), ?_⟩
    refine ⟨_, rfl, q, head, ats, rfl, hq, few, dist, fun H1 d s1 nd1 own => ?_⟩
    have tlen : (tabsV ats T).length = T.length := List.length_map ..
    refine ⟨_, rfl, tl, rfl, ⟨_, seqT s1 htl⟩, fun R nR => ?_⟩
    have hR0 : upd H1 R (.dK []) R = some (.dK []) := upd_same
    have sR0 : Same H1 (upd H1 R (.dK [])) := same_new nR
    generalize upd H1 R (.dK []) = G0 at hR0 sR0 ⊢
    refine walk_tup (xs := tabsV ats T) (fun k H7 => Same H1 H7 ∧ (∀ b o, b ≠ R → G0 b = some o → H7 b = some o) ∧ (∃ o, H7 R = some o) ∧ KD (InK G0 H7 ats T) H7 R ats (T.take k)) ⟨sR0, fun _ _ _ e => e, ⟨_, hR0⟩, [], hR0, .nil⟩ (fun k H7 _ h => seqT (s1.trans h.1) htl) ?_ ?_
    · rintro k x H7 hx ⟨sm, but, ⟨oR, hoR⟩, kvs, hR, hkv⟩
      obtain ⟨p, hp, rfl⟩ := tabs_at hx
      have lp := lt p (List.mem_of_getElem? hp)
      have lk := paired_len hkv
      have young : ∀ b, H7 b = none → G0 b = none := fun b hb => by
        cases e : G0 b with
        | none => rfl
        | some o =>
          by_cases c : b = R
          · rw [c, hoR] at hb; cases hb
          · rw [but b o c e] at hb; cases hb
      refine ⟨rfl, ?_⟩
      refine tyes ?_
      refine ⟨_, rfl, _, rfl, tl, rfl, ⟨_, seqT (s1.trans sm) htl⟩, fun D nD => ?_⟩
      have G0D := young D nD
      have DR : D ≠ R := (ne_of_none hoR nD).symm
      refine walk_tup (xs := tabsV ats T) (fun m H8 => Same H7 H8 ∧ (∃ o, H8 D = some o) ∧ KD (fun s a => H7 a = none ∧ a ≠ D ∧ InG G0 H8 ats p s a) H8 D ats (T.take m)) ⟨same_new nD, ⟨_, upd_same⟩, [], upd_same, .nil⟩ (fun m H8 _ h => seqT (s1.trans (sm.trans h.1)) htl) ?_ ?_
      · rintro m y H8 hy ⟨s8, ⟨oD, hoD⟩, kvs2, hD, hkv2⟩
        obtain ⟨s0, hs0, rfl⟩ := tabs_at hy
        have ls := lt s0 (List.mem_of_getElem? hs0)
        have lk2 := paired_len hkv2
        refine ⟨rfl, ?_⟩
        refine tyes ?_
        refine ⟨_, rfl, _, rfl, _, rfl, _, rfl, d, ats, s0, p, rfl, own.same (sm.trans s8), few, dist, ls, lp, fun H9 a L s9 n9 ah => ⟨kvs2, .inr (tabAt ats s0), rfl, s9 _ _ hD, ?_, ?_⟩⟩
        · rw [lk2, List.length_take]
          exact small1000 (by omega)
        have n7 : H7 a = none := s8.free n9
        have aD : a ≠ D := (ne_of_none hoD n9).symm
        rw [putK_new _ (kd_new dist hkv2 (fun k hk => lt k (List.mem_of_mem_take hk)) ls (fresh_nd ndT hs0))]
        refine ⟨fun b o e => ?_, ⟨_, upd_same⟩, _, upd_same, ?_⟩
        · rw [upd_ne (ne_of_none e nD)]
          exact s9 _ _ (s8 _ _ e)
        · rw [List.take_add_one, hs0]
          refine Paired.snoc (paired_mono (fun kv u y => ?_) hkv2) ⟨rfl, a, rfl, n7, aD, young a n7, L, ?_, ah.inv⟩
          · obtain ⟨y1, b, y2, y3, y4, y5, L', y6⟩ := y
            exact ⟨y1, b, y2, y3, y4, y5, L', by rw [upd_ne y4]; exact s9 _ _ y6.at_, y6.inv⟩
          · rw [upd_ne aD]
            exact ah.at_
      · rintro H8 ⟨s8, ⟨oD, hoD⟩, kd⟩
        rw [tlen, List.take_length] at kd
        refine ⟨kvs, .inr (tabAt ats p), rfl, s8 _ _ hR, ?_, ?_⟩
        · rw [lk, List.length_take]
          exact small1000 (by omega)
        rw [putK_new _ (kd_new dist hkv (fun k hk => lt k (List.mem_of_mem_take hk)) lp (fresh_nd ndT hp))]
        have sH8 := sm.trans s8
        refine ⟨fun b o e => ?_, fun b o n e => ?_, ⟨_, upd_same⟩, _, upd_same, ?_⟩
        · rw [upd_ne (ne_of_none e nR)]
          exact sH8 _ _ e
        · rw [upd_ne n]
          exact s8 _ _ (but b o n e)
        · rw [List.take_add_one, hp]
          refine Paired.snoc (paired_mono (fun kv u y => ?_) hkv) ⟨rfl, D, rfl, ?_⟩
          · obtain ⟨y1, b, y2, y3⟩ := y
            exact ⟨y1, b, y2, (y3.same s8).put hR0⟩
          · have ik : InK G0 H8 ats T p D := ⟨G0D, kd.mono (fun _ h => h) fun _ _ z => z.2.2⟩
            exact ik.put hR0
    · rintro H7 ⟨sm, but, _, kd⟩
      rw [tlen, List.take_length] at kd
      exact fin H7 R (s1.trans sm) (s1.free nR) (kd.mono (fun _ h => h) fun p r y => y.2.mono (fun _ h => h) fun _ _ z => z.2)
end
end Cut
set_option Elab.async false
set_option linter.all false
set_option maxRecDepth 100000
set_option maxHeartbeats 4000000
namespace Cut
open PySem PySem.Spec PyProof.Rows L2
/-! ### list comprehensions with three `for`s -/
abbrev bl3 (e t i : Expr) (cs : List Expr) (t1 i1 : Expr) (cs1 : List Expr) (t2 i2 : Expr) (cs2 : List Expr) (sc : Scope) (p : Pos) : Expr := .ListComp e [⟨t, i, cs, 0⟩, ⟨t1, i1, cs1, 0⟩, ⟨t2, i2, cs2, 0⟩] sc p
section
variable {prog : Program} {w : World} {A : Around} {R : Result → Shared → Prop} {s : Shared} {C e t i i1 : Expr} {cs : List Expr} {p : Pos} {it acc : Value} {env : Env} {k : Nat}
/-- one turn of a walk whose fine items go to br -/
abbrev aTurn (C t : Expr) (cs : List Expr) (k : Nat) (at_ : Pos) (it acc : Value) (env : Env) (br : Sem Fin) : Sem Fin := do
  standAt at_
  match ← pyNext it with
  | none => pure (.done .next)
  | some v =>
    letOwnedTupleGo t it v
    assign t env v
    let fine ← tests cs env
    if fine = true then br else again (.compLoop C k it acc env)
/-- the next `for` is walked -/
abbrev brSub (C i1 : Expr) (k k1 : Nat) (it acc : Value) (env : Env) : Sem Fin := do
  let x ← eval i1 env
  standAt i1.pos
  let x ← foldedSetIterable i1 env x
  let _ ← runOwn (.compStart C k1 (← holding [x] (pyIter x)) acc env) env
  again (.compLoop C k it acc env)
/-- an item is put behind the list -/
abbrev brApp (C e : Expr) (k : Nat) (it acc : Value) (env : Env) : Sem Fin := do
  (do let _ ← call (.builtin "list.append") [acc, ← eval e env])
  again (.compLoop C k it acc env)
theorem turn3_0 (e t i t1 i1 t2 i2 : Expr) (cs cs1 cs2 : List Expr) (sc : Scope) (p : Pos) (it acc : Value) (env : Env) :
    compTurn (bl3 e t i cs t1 i1 cs1 t2 i2 cs2 sc p) 0 it acc env = aTurn (bl3 e t i cs t1 i1 cs1 t2 i2 cs2 sc p) t cs 0 i.pos it acc env (brSub (bl3 e t i cs t1 i1 cs1 t2 i2 cs2 sc p) i1 0 1 it acc env) := by rfl
theorem turn3_1 (e t i t1 i1 t2 i2 : Expr) (cs cs1 cs2 : List Expr) (sc : Scope) (p : Pos) (it acc : Value) (env : Env) :
    compTurn (bl3 e t i cs t1 i1 cs1 t2 i2 cs2 sc p) 1 it acc env = aTurn (bl3 e t i cs t1 i1 cs1 t2 i2 cs2 sc p) t1 cs1 1 i1.pos it acc env (brSub (bl3 e t i cs t1 i1 cs1 t2 i2 cs2 sc p) i2 1 2 it acc env) := by rfl
theorem turn3_2 (e t i t1 i1 t2 i2 : Expr) (cs cs1 cs2 : List Expr) (sc : Scope) (p : Pos) (it acc : Value) (env : Env) :
    compTurn (bl3 e t i cs t1 i1 cs1 t2 i2 cs2 sc p) 2 it acc env = aTurn (bl3 e t i cs t1 i1 cs1 t2 i2 cs2 sc p) t2 cs2 2 i2.pos it acc env (brApp (bl3 e t i cs t1 i1 cs1 t2 i2 cs2 sc p) e 2 it acc env) := by rfl
/-- a walk whose turns are such -/
theorem walk_gen {br : Sem Fin} {at_ : Pos} (hC : ∃ e gs sc p, C = Expr.ListComp e gs sc p) (eqn : compTurn C k it acc env = aTurn C t cs k at_ it acc env br) (I : Nat → Shared → Prop)
    (turn : ∀ n s, I n s → wpAny (model prog w) A (pyNext it) (fun r s₁ => match r with
      | none => R (.ok .next) s₁
      | some v => wpAny (model prog w) A (letOwnedTupleGo t it v) (fun _ s₂ => wpAny (model prog w) A (assign t env v) (fun _ s₃ => wpAny (model prog w) A (tests cs env) (fun fine s₄ =>
          if fine = true then wpAny (model prog w) A br (fun fin s₅ => fin = .again (.compLoop C k it acc env) ∧ ∃ m, m < n ∧ I m s₅) (far prog w A env R) s₄
          else ∃ m, m < n ∧ I m s₄) (far prog w A env R) s₃) (far prog w A env R) s₂) (far prog w A env R) s₁) (far prog w A env R) s)
    (n : Nat) (h : I n s) : codeAny (model prog w) A (.compLoop C k it acc env) R s := by
  obtain ⟨_, _, _, _, rfl⟩ := hC
  refine codeAny_loop rfl I (fun n s hI => ?_) n h
  show wpAny _ A ((compTurn _ k it acc env).onRaise (fun x => do noteFrame x env; theTreesLotGoes x)) _ _ s
  refine wpAny_noted ?_
  rw [eqn]
  refine wpAny_bind (wpAny_standAt (wpAny_bind (wpAny_mono (turn n s hI) (fun r s₁ q => ?_) fun _ _ z => z)))
  match r, q with
  | none, q => exact wpAny_pure q
  | some v, q =>
    refine wpAny_bind (wpAny_mono q (fun _ s₂ q => wpAny_bind (wpAny_mono q (fun _ s₃ q => wpAny_bind (wpAny_mono q (fun fine s₄ q => ?_) fun _ _ z => z)) fun _ _ z => z)) fun _ _ z => z)
    match fine, q with
    | false, q => exact wpAny_pure ⟨rfl, q⟩
    | true, q =>
      show wpAny _ _ br _ _ _
      refine wpAny_mono q (fun fin s₅ q => ?_) fun _ _ z => z
      obtain ⟨rfl, q⟩ := q
      exact ⟨rfl, q⟩
theorem sub_gen {k1 : Nat} {Good : Shared → Prop} {EE : Value → Shared → Prop} (plain : ∀ x, foldedSetIterable i1 env x = pure x)
    (h : wpAny (model prog w) A (eval i1 env) (fun x s₅ => wpAny (model prog w) A (pyIter x) (fun j s₆ => codeAny (model prog w) A (.compStart C k1 j acc env) (fun r s' => match r with
        | .ok _ => Good s'
        | .error _ => False) s₆) EE s₅) EE s) :
    wpAny (model prog w) A (brSub C i1 k k1 it acc env) (fun fin s' => fin = .again (.compLoop C k it acc env) ∧ Good s') EE s := by
  refine wpAny_bind (wpAny_mono h (fun x s₅ q => wpAny_bind (wpAny_standAt (wpAny_bind (wpAny_of_eq (plain x) (wpAny_bind (wpAny_holding (wpAny_mono q (fun j s₆ q => ?_) fun _ _ z => z))))))) fun _ _ z => z)
  refine wpAny_bind (wpAny_runOwn ?_)
  rw [Around.mark_none]
  refine codeAny_mono q fun r s' q => ?_
  match r, q with
  | .ok f, q => first | exact wpAny_pure ⟨rfl, q⟩ | exact wpAny_bind (wpAny_pure (wpAny_pure ⟨rfl, q⟩))
  | .error x, q => exact q.elim
theorem start3_1 {e t i t1 i1 t2 i2 : Expr} {cs cs1 cs2 : List Expr} {sc : Scope} (h0 : codeAny (model prog w) A (.compLoop (bl3 e t i cs t1 i1 cs1 t2 i2 cs2 sc p) 1 it acc env) R s)
    (h : wpAny (model prog w) A (pyIter it) (fun j s' => codeAny (model prog w) A (.compLoop (bl3 e t i cs t1 i1 cs1 t2 i2 cs2 sc p) 1 j acc env) R s') (far prog w A env R) s) :
    codeAny (model prog w) A (.compStart (bl3 e t i cs t1 i1 cs1 t2 i2 cs2 sc p) 1 it acc env) R s := by
  refine codeAny_of_tree ?_
  show wpAny _ _ ((compStart (bl3 e t i cs t1 i1 cs1 t2 i2 cs2 sc p) 1 it acc env).onRaise (fun x => do noteFrame x env; standAt theWindowsPlace)) _ _ s
  refine wpAny_notedAt ?_
  unfold compStart
  show wpAny _ _ (ask >>= _) _ _ s
  refine wpAny_bind (wpAny_askSetting (wpAny_ite ?_))
  split
  · first
      | exact wpAny_pure ⟨rfl, h0⟩
      | exact wpAny_bind (wpAny_pure (wpAny_pure ⟨rfl, h0⟩))
  · exact wpAny_bind (wpAny_rule (wpAny_bind (wpAny_standAt (wpAny_bind
      (wpAny_mono h (fun j s' q => wpAny_pure (And.intro rfl q)) fun _ _ z => z)))))
theorem start3_2 {e t i t1 i1 t2 i2 : Expr} {cs cs1 cs2 : List Expr} {sc : Scope} (h0 : codeAny (model prog w) A (.compLoop (bl3 e t i cs t1 i1 cs1 t2 i2 cs2 sc p) 2 it acc env) R s)
    (h : wpAny (model prog w) A (pyIter it) (fun j s' => codeAny (model prog w) A (.compLoop (bl3 e t i cs t1 i1 cs1 t2 i2 cs2 sc p) 2 j acc env) R s') (far prog w A env R) s) :
    codeAny (model prog w) A (.compStart (bl3 e t i cs t1 i1 cs1 t2 i2 cs2 sc p) 2 it acc env) R s := by
  refine codeAny_of_tree ?_
  show wpAny _ _ ((compStart (bl3 e t i cs t1 i1 cs1 t2 i2 cs2 sc p) 2 it acc env).onRaise (fun x => do noteFrame x env; standAt theWindowsPlace)) _ _ s
  refine wpAny_notedAt ?_
  unfold compStart
  show wpAny _ _ (ask >>= _) _ _ s
  refine wpAny_bind (wpAny_askSetting (wpAny_ite ?_))
  split
  · first
      | exact wpAny_pure ⟨rfl, h0⟩
      | exact wpAny_bind (wpAny_pure (wpAny_pure ⟨rfl, h0⟩))
  · exact wpAny_bind (wpAny_rule (wpAny_bind (wpAny_standAt (wpAny_bind
      (wpAny_mono h (fun j s' q => wpAny_pure (And.intro rfl q)) fun _ _ z => z)))))
end
/-! the levels -/
abbrev InnT := L2.St → Hp → (Hp → Prop) → Prop
def tLev (wi : TI) (g : TG) (tt : L2.TT) (vs : List Nat) (Inn : InnT) : InnT := fun σ H Nx => wi σ H fun J H4 => ∃ W1 : Nat → Nat → Hp → Prop, (∃ m, W1 0 m H4) ∧ ∀ j k H, W1 j k H →
  (J.stop j H ∧ Nx H) ∨ (J.go j H ∧ ∃ Ny : Hp → Prop, (∀ H', Ny H' → ∃ k', k' < k ∧ W1 (j + 1) k' H') ∧ ∀ x H', J.yld j H x H' → g x (wipe σ vs) H' fun σ3 H5 => wipe σ3 vs = wipe σ vs ∧ tt σ3 H5 fun b H6 => if b = true then Inn σ3 H6 Ny else Ny H6)
def tApp (D : Addr) (te : TE) : InnT := fun σ H Nx => te σ H fun y H7 => ∃ acc, H7 D = some (.lst acc) ∧ acc.length < sizeLine ∧ Nx (upd H7 D (.lst (acc ++ [y])))
def RunB (Y : Cx) (vs : List Nat) (br : Sem Fin) (c : Code) (Inn : InnT) : Prop := ∀ (pins : List (Addr × Obj)) (s : Shared) (σ : L2.St) (H : Hp) (Nx : Hp → Prop), L2.Inv Y pins σ H s → Inn σ H Nx →
  wpAny (model Y.prog Y.w) Y.A br (fun fin s' => fin = .again c ∧ ∃ H', L2.Inv Y pins (wipe σ vs) H' s' ∧ Nx H') (fun _ _ => False) s
theorem run_pe {Y : Cx} (hx : Y.xe = fun _ _ => False) {e : Expr} {te : TE} (pe : PE Y e te) {pins : List (Addr × Obj)} {s : Shared} {σ : L2.St} {H : Hp} {Q : VK} (I : L2.Inv Y pins σ H s) (h : te σ H Q) : wpAny (model Y.prog Y.w) Y.A (eval e Y.env) (EP Y pins σ Q) (fun _ _ => False) s := by
  have z := pe.run pins s σ H Q I h
  rw [hx] at z
  exact z
theorem run_pi {Y : Cx} (hx : Y.xe = fun _ _ => False) {t i : Expr} {wi : TI} (pi : PI Y t i wi) {pins : List (Addr × Obj)} {s : Shared} {σ : L2.St} {H : Hp} {R : It → Hp → Prop} (I : L2.Inv Y pins σ H s) (h : wi σ H R) : wpAny (model Y.prog Y.w) Y.A (eval i Y.env) (fun v s1 => wpAny (model Y.prog Y.w) Y.A (pyIter v) (PIE Y pins σ t R) (fun _ _ => False) s1) (fun _ _ => False) s := by
  have z := pi.run pins s σ H R I h
  rw [hx] at z
  exact z
theorem run_pts {Y : Cx} (hx : Y.xe = fun _ _ => False) {cs : List Expr} {tt : L2.TT} (pt : PTs Y cs tt) {pins : List (Addr × Obj)} {s : Shared} {σ : L2.St} {H : Hp} {Q : Bool → Hp → Prop} (I : L2.Inv Y pins σ H s) (h : tt σ H Q) : wpAny (model Y.prog Y.w) Y.A (tests cs Y.env) (TP Y pins σ Q) (fun _ _ => False) s := by
  have z := pt.run pins s σ H Q I h
  rw [hx] at z
  exact z
theorem run_pg {Y : Cx} (hx : Y.xe = fun _ _ => False) {t : Expr} {g : TG} (pg : PG Y t g) {pins : List (Addr × Obj)} {s : Shared} {σ : L2.St} {H : Hp} {x : V} {u : Value} {Q : L2.St → Hp → Prop} (I : L2.Inv Y pins σ H s) (r : RelV x u) (h : g x σ H Q) : wpAny (model Y.prog Y.w) Y.A (assign t Y.env u) (fun _ s' => ∃ σ' H', L2.Inv Y pins σ' H' s' ∧ Q σ' H') (fun _ _ => False) s := by
  have z := pg.run pins s σ H x u Q I r h
  rw [hx] at z
  exact z
theorem run_app {Y : Cx} {C e : Expr} {k : Nat} {it : Value} {D : Addr} {te : TE} (hx : Y.xe = fun _ _ => False) (pe : PE Y e te) : RunB Y [] (brApp C e k it (.ref D) Y.env) (.compLoop C k it (.ref D) Y.env) (tApp D te) := fun pins s σ H Nx I h => by
  refine wpAny_bind (wpAny_bind (thnF (run_pe hx pe I h) fun v s1 ⟨y, H1, I1, r1, acc, hD, hz, nx⟩ => ?_))
  exact wpAny_bind (app_ok I1 hD hz r1 fun s2 I2 => wpAny_pure (wpAny_pure ⟨rfl, _, I2, nx⟩))
theorem run_lev {Y : Cx} {C t1 i1 : Expr} {cs1 : List Expr} {k k1 : Nat} {at_ : Pos} {itO : Value} {D : Addr} {wi1 : TI} {g1 : TG} {tt1 : L2.TT} {vs vs1 : List Nat} {Inn : InnT} {br : Value → Sem Fin} (hc : Y.calm = true) (hx : Y.xe = fun _ _ => False)
    (pi1 : PI Y t1 i1 wi1) (pg1 : PG Y t1 g1) (pt1 : PTs Y cs1 tt1) (plain : ∀ x, foldedSetIterable i1 Y.env x = pure x) (sub : ∀ j ∈ vs1, j ∈ vs) (hC : ∃ e gs sc p, C = Expr.ListComp e gs sc p)
    (eqn : ∀ it, compTurn C k1 it (.ref D) Y.env = aTurn C t1 cs1 k1 at_ it (.ref D) Y.env (br it)) (inn : ∀ it, RunB Y vs1 (br it) (.compLoop C k1 it (.ref D) Y.env) Inn)
    (start : ∀ {R : Result → Shared → Prop} {s : Shared} {it : Value}, codeAny (model Y.prog Y.w) Y.A (.compLoop C k1 it (.ref D) Y.env) R s → wpAny (model Y.prog Y.w) Y.A (pyIter it) (fun j s' => codeAny (model Y.prog Y.w) Y.A (.compLoop C k1 j (.ref D) Y.env) R s') (far Y.prog Y.w Y.A Y.env R) s → codeAny (model Y.prog Y.w) Y.A (.compStart C k1 it (.ref D) Y.env) R s) :
    RunB Y vs (brSub C i1 k k1 itO (.ref D) Y.env) (.compLoop C k itO (.ref D) Y.env) (tLev wi1 g1 tt1 vs Inn) := fun pins s σ H Nx I h => by
  refine sub_gen (Good := fun s' => ∃ H', L2.Inv Y pins (wipe σ vs) H' s' ∧ Nx H') plain (thnF (run_pi hx pi1 I h) fun xv s1 hxv => thnF hxv fun iv s2 got => ?_)
  obtain ⟨it, fp, tn, J, H2, rfl, I2, T, st2, f2, W1, ⟨m0, w0⟩, turn⟩ := got
  have side : ∀ {H' : Hp}, (∀ b ∈ fp, H' b = none) → ∀ b ∈ fp, FpOk Y pins H' b := fun hn b hb => ⟨hn b hb, (f2 b hb).2⟩
  have loop : codeAny (model Y.prog Y.w) Y.A (.compLoop C k1 (.ref it) (.ref D) Y.env) (fun r s' => match r with
      | .ok _ => ∃ H', L2.Inv Y pins (wipe σ vs) H' s' ∧ Nx H'
      | .error _ => False) s2 := by
    refine walk_gen hC (eqn (.ref it)) (MidI Y pins (wipe σ vs) fp tn W1) ?_ m0 ⟨0, H2, I2.weak (wipe_length _ _) (fun j v ev => (wipe_some ev).1), st2, fun b hb => (f2 b hb).1, w0⟩
    rintro m s3 ⟨n, H3, I3, st3, n3, w3⟩
    rcases turn n m H3 w3 with ⟨stop, nx⟩ | ⟨go, Ny, hNy, step⟩
    · refine thnF (T.done Y rfl rfl rfl hc n pins s3 _ H3 (fun _ _ => False) I3 (side n3) st3 stop) fun r s4 ⟨hr, I4⟩ => ?_
      subst hr
      exact ⟨H3, I4, nx⟩
    · refine thnF (T.item Y rfl rfl rfl hc n pins s3 _ H3 (fun _ _ => False) I3 (side n3) st3 go) fun r s4 ⟨u, hr, h4⟩ => ?_
      subst hr
      refine thnF h4 fun _ s5 ⟨x, H5, I5, r5, y5, st5, n5⟩ => ?_
      have I5' := I5.pinned (side n5) (T.obj _ _ st5)
      refine thnF (run_pg hx pg1 I5' r5 (step x H5 y5)) fun _ s6 ⟨σ6, H6, I6, hw6, q6⟩ => ?_
      refine thnF (run_pts hx pt1 I6 q6) fun b s7 ⟨H7, I7, q7⟩ => ?_
      have hl : (wipe σ vs).length = σ6.length := by rw [← hw6, wipe_length]
      match b, q7 with
      | false, q7 => exact turn_endI T st5 hNy I7 hl (fun j v ev => by rw [← hw6] at ev; exact (wipe_some ev).1) q7
      | true, q7 =>
        show wpAny _ _ (br (.ref it)) _ _ _
        refine thnF (inn (.ref it) _ s7 σ6 H7 Ny I7 q7) fun fin s8 ⟨ef, H8, I8, q8⟩ => ⟨ef, ?_⟩
        refine turn_endI T st5 hNy I8 (hl.trans (wipe_length σ6 vs1).symm) (fun j v ev => ?_) q8
        rw [← hw6] at ev
        obtain ⟨e1, e2⟩ := wipe_some ev
        rw [wipe_out fun z => e2 (sub j z)]
        exact e1
  exact start loop (T.self Y.A 0 _ _ _ st2 loop)
end Cut
set_option Elab.async false
set_option linter.all false
set_option maxRecDepth 100000
set_option maxHeartbeats 4000000
namespace Cut
open PySem PySem.Spec PyProof.Rows L2
section
variable {X : Cx}
/-- entering: the list is made, the block's frame, the first walk begins -/
theorem list_begin {pins : List (Addr × Obj)} {s : Shared} {σ : L2.St} {H : Hp} {Q : VK} {e t i : Expr} {cs : List Expr} {rest : List Comprehension} {sc : Scope} {own : List (PySem.Str × Nat)} {p p' : Pos} {wi : TI} {use : Option (Value → Sem Unit)} {Qf : Value → Shared → Prop}
    (hN : X.N.Nodup) (I : L2.Inv X pins σ H s) (hi : PI X t i wi) (ok : BlkOk X.N X.env.scope sc own) (plain : ∀ x, foldedSetIterable i X.env x = pure x)
    {Wk : It → Hp → Addr → Prop} (h : wi σ H fun J H1 => ∀ D, H1 D = none → Wk J H1 D)
    (back : ∀ D C s' m H', L2.Inv X pins σ H' s' → Q (.ref D) H' → s'.heap.Ns C m → FpOk X pins H' C → compPost (model X.prog X.w) X.A X.xe use Qf (.ref D) C (.ok .next) s')
    (main : ∀ (B : Shared) (HB H2 : Hp) (D it : Addr) (fp : List Addr) (tn : Nat → Heap → Prop) (J : It) (s4 : Shared), H2 D = none → Wk J H2 D → HB = upd H2 D (.lst []) → Turn X.prog X.w X.K t J fp it tn →
      L2.Inv (bCtx X B HB sc fp) [] (wipe σ (own.map (·.2))) HB s4 → tn 0 s4.heap → (∀ b ∈ fp, HB b = none) →
      (∀ (s' : Shared) (H' : Hp), L2.Inv (bCtx X B HB sc fp) [] (wipe σ (own.map (·.2))) H' s' → Q (.ref D) H' → compPost (model X.prog X.w) X.A X.xe use Qf (.ref D) B.heap.objs.size (.ok .next) s') →
      codeAny (model X.prog X.w) X.A (.compLoop (.ListComp e (⟨t, i, cs, 0⟩ :: rest) sc p) 0 (.ref it) (.ref D) (bCtx X B HB sc fp).env) (compPost (model X.prog X.w) X.A X.xe use Qf (.ref D) B.heap.objs.size) s4) :
    wpAny (model X.prog X.w) X.A (comprehension (.ListComp e (⟨t, i, cs, 0⟩ :: rest) sc p) sc X.env p' (newList []) false (eval i X.env) use) Qf X.xe s := by
  have has : ∀ y ∈ sc.names, y.2 = .free → ∃ c, X.env.cells.lookup y.1 = some c := fun y hy ey => (ok.free y hy ey).elim (fun k => I.ok.has _ (.inl k)) fun k => I.ok.has _ (.inr k)
  refine wpAny_comprehension_free (use := use) rfl plain (closure_ok has) ok.kind (fun y hy ey => (ok.uniq y hy).trans (congrArg some ey)) (thn (hi.run pins s σ H _ I h) fun xv s1 hx => thn hx fun iv s2 got => ?_)
  obtain ⟨it, fp, tn, J, H2, rfl, I2, T, st2, f2, q⟩ := got
  refine wpAny_newObj_type (newEnv_comp ?_) (by show 0 ≤ sizeLine; decide)
  obtain ⟨D, hD⟩ : ∃ D, s2.heap.objs.size = D := ⟨_, rfl⟩
  have free2 : H2 D = none := I2.hok.fresh (Nat.le_of_eq hD)
  have wk := q D free2
  obtain ⟨B, hB⟩ : ∃ B : Shared, B = { s2 with heap := s2.heap.push { cls := .type "list", data := .seq ([] : List Value).toArray } } := ⟨_, rfl⟩
  obtain ⟨HB, eHB⟩ : ∃ HB : Hp, HB = upd H2 D (.lst []) := ⟨_, rfl⟩
  have heapB : B.heap = s2.heap.push { cls := .type "list", data := .seq ([] : List Value).toArray } := by rw [hB]
  have IB : L2.Inv X pins σ HB B := by
    rw [hB, eHB]
    refine I2.laid (t' := s2.toks) (fun b o eo => Heap.get?_push_of_some _ eo) (Nat.le_of_eq hD) ⟨Nat.zero_le _, [], 0, .nil, ?_⟩
    rw [← hD]
    exact Heap.get?_push_size _ rfl
  have under : ∀ b ∈ fp, b < s2.heap.objs.size := fun b hb => let ⟨o, eo, _⟩ := T.obj _ _ st2 b hb; Heap.lt_size eo
  have fB : ∀ b ∈ fp, FpOk X pins HB b ∧ b < B.heap.objs.size := fun b hb => by
    have lt := under b hb
    have other : b ≠ D := by rw [← hD]; exact Nat.ne_of_lt lt
    refine ⟨⟨by rw [eHB, upd_ne other]; exact (f2 b hb).1, (f2 b hb).2⟩, ?_⟩
    rw [heapB, Heap.size_push]
    exact Nat.lt_succ_of_lt lt
  have stB : tn 0 B.heap := T.keep _ _ _ st2 fun b _ o eo => by rw [heapB]; exact Heap.get?_push_of_some _ eo
  have I4 := block_start IB ok hN fB
  have key := main B HB H2 D it fp tn J { B with heap := pushCells (B.heap.push { cls := .type "dict", data := .dict #[] }) sc.names } free2 wk eHB T I4
    (T.keep _ _ _ stB fun b _ o eo => pushCells_keeps _ _ _ _ (Heap.get?_push_of_some _ eo)) (fun b hb => (fB b hb).1.1) (fun s' H' I' q' => ?_)
  · have run := codeAny_compStart_list key (T.self X.A 0 _ _ _ (T.keep _ _ _ stB fun b _ o eo => pushCells_keeps _ _ _ _ (Heap.get?_push_of_some _ eo)) key)
    rw [hD]
    rw [hB] at run
    exact run
  · have home : L2.Inv X pins σ H' s' := IB.call' (ch := fp) I'.os I'.base I'.hok I'.bare fun b hb =>
      let k := (fB b hb).1; ⟨k.2.2.2.1, k.2.1, k.2.2.2.2.1, k.2.2.2.2.2⟩
    have noC : H' B.heap.objs.size = none := I'.free
    obtain ⟨m, hn, _⟩ := I'.loc
    exact back D B.heap.objs.size s' m H' home q' hn (IB.fpOk (Nat.le_refl _) noC)
/-- [e for t in i if cs for t1 in i1 if cs1 for t2 in i2 if cs2] -/
def tLc3 (wi : TI) (g : TG) (tt : L2.TT) (wi1 : TI) (g1 : TG) (tt1 : L2.TT) (wi2 : TI) (g2 : TG) (tt2 : L2.TT) (te : TE) (vs vs1 vs2 : List Nat) : TE := fun σ H Q => wi σ H fun J H1 => ∀ D, H1 D = none → ∃ W : Nat → Nat → Hp → Prop, (∃ m, W 0 m (upd H1 D (.lst []))) ∧ ∀ n m H, W n m H →
  (J.stop n H ∧ Q (.ref D) H) ∨ (J.go n H ∧ ∃ Nx : Hp → Prop, (∀ H', Nx H' → ∃ m', m' < m ∧ W (n + 1) m' H') ∧ ∀ x H', J.yld n H x H' →
    g x (wipe σ vs) H' fun σ2 H2 => wipe σ2 vs = wipe σ vs ∧ tt σ2 H2 fun b H3 => if b = true then tLev wi1 g1 tt1 vs1 (tLev wi2 g2 tt2 vs2 (tApp D te)) σ2 H3 Nx else Nx H3)
abbrev InB (X : Cx) (sc : Scope) (F : Cx → Prop) : Prop := ∀ (s : Shared) (H : Hp) (C : Addr) (cl : List (PySem.Str × Addr)) (fp : List Addr), F (X.blk s H sc (compEnvC sc cl C X.env) fp)
theorem pe_lc3 {e t i t1 i1 t2 i2 : Expr} {cs cs1 cs2 : List Expr} {sc : Scope} {own : List (PySem.Str × Nat)} {vs1 vs2 : List Nat} {p : Pos} {wi wi1 wi2 : TI} {g g1 g2 : TG} {tt tt1 tt2 : L2.TT} {te : TE} (hc : X.calm = true) (hN : X.N.Nodup) (hi : PI X t i wi) (ok : BlkOk X.N X.env.scope sc own)
    (hv : ∀ j ∈ vs1, j ∈ own.map (·.2)) (hv2 : ∀ j ∈ vs2, j ∈ vs1)
    (hg : InB X sc fun Y => PG Y t g) (ht : InB X sc fun Y => PTs Y cs tt)
    (hi1 : InB X sc fun Y => PI Y t1 i1 wi1) (hg1 : InB X sc fun Y => PG Y t1 g1) (ht1 : InB X sc fun Y => PTs Y cs1 tt1)
    (hi2 : InB X sc fun Y => PI Y t2 i2 wi2) (hg2 : InB X sc fun Y => PG Y t2 g2) (ht2 : InB X sc fun Y => PTs Y cs2 tt2)
    (he : InB X sc fun Y => PE Y e te)
    (plain : ∀ x, foldedSetIterable i X.env x = pure x := by intro _; rfl) (plain1 : ∀ env x, foldedSetIterable i1 env x = pure x := by intro _ _; rfl) (plain2 : ∀ env x, foldedSetIterable i2 env x = pure x := by intro _ _; rfl) :
    PE X (bl3 e t i cs t1 i1 cs1 t2 i2 cs2 sc p) (tLc3 wi g tt wi1 g1 tt1 wi2 g2 tt2 te (own.map (·.2)) vs1 vs2) := by
  refine ⟨fun pins s σ H Q I h => ?_⟩
  rw [eval_ListComp]
  refine list_begin (Q := Q) hN I hi ok plain h (fun D C s' m H' I' q hn f => ⟨m, hn, fun h'' sb => ?_⟩) ?_
  · obtain ⟨f0, f1, f2, f3, f4, f5⟩ := f
    exact ⟨.ref D, H', I'.turned (t' := s'.toks) (fun b o hb eo => (sb.2 b hb).trans eo) f0 f1 f3 f4 f5, rfl, q⟩
  intro B HB H2 D it fp tn J s4 free2 wk eHB T I4 st4 nfp out
  obtain ⟨W, ⟨m0, w0⟩, turn⟩ := wk
  rw [← eHB] at w0
  have pg := hg B HB B.heap.objs.size (cellsFrom (B.heap.objs.size + 1) sc.names (cloFrom X.env.cells sc.names [])) fp
  have pt := ht B HB B.heap.objs.size (cellsFrom (B.heap.objs.size + 1) sc.names (cloFrom X.env.cells sc.names [])) fp
  have pe := he B HB B.heap.objs.size (cellsFrom (B.heap.objs.size + 1) sc.names (cloFrom X.env.cells sc.names [])) fp
  have pi1 := hi1 B HB B.heap.objs.size (cellsFrom (B.heap.objs.size + 1) sc.names (cloFrom X.env.cells sc.names [])) fp
  have pg1 := hg1 B HB B.heap.objs.size (cellsFrom (B.heap.objs.size + 1) sc.names (cloFrom X.env.cells sc.names [])) fp
  have pt1 := ht1 B HB B.heap.objs.size (cellsFrom (B.heap.objs.size + 1) sc.names (cloFrom X.env.cells sc.names [])) fp
  have pi2 := hi2 B HB B.heap.objs.size (cellsFrom (B.heap.objs.size + 1) sc.names (cloFrom X.env.cells sc.names [])) fp
  have pg2 := hg2 B HB B.heap.objs.size (cellsFrom (B.heap.objs.size + 1) sc.names (cloFrom X.env.cells sc.names [])) fp
  have pt2 := ht2 B HB B.heap.objs.size (cellsFrom (B.heap.objs.size + 1) sc.names (cloFrom X.env.cells sc.names [])) fp
  have cal : (bCtx X B HB sc fp).calm = true := hc
  have run2 : ∀ ito, RunB (bCtx X B HB sc fp) vs2 (brSub (bl3 e t i cs t1 i1 cs1 t2 i2 cs2 sc p) i2 1 2 ito (.ref D) (bCtx X B HB sc fp).env) (.compLoop (bl3 e t i cs t1 i1 cs1 t2 i2 cs2 sc p) 1 ito (.ref D) (bCtx X B HB sc fp).env) (tLev wi2 g2 tt2 vs2 (tApp D te)) := fun ito =>
    run_lev (Y := bCtx X B HB sc fp) cal rfl pi2 pg2 pt2 (plain2 _) (vs1 := []) (by simp) ⟨_, _, _, _, rfl⟩ (fun j => turn3_2 e t i t1 i1 t2 i2 cs cs1 cs2 sc p j (.ref D) _) (fun j => run_app rfl pe) start3_2
  have run1 : ∀ ito, RunB (bCtx X B HB sc fp) vs1 (brSub (bl3 e t i cs t1 i1 cs1 t2 i2 cs2 sc p) i1 0 1 ito (.ref D) (bCtx X B HB sc fp).env) (.compLoop (bl3 e t i cs t1 i1 cs1 t2 i2 cs2 sc p) 0 ito (.ref D) (bCtx X B HB sc fp).env) (tLev wi1 g1 tt1 vs1 (tLev wi2 g2 tt2 vs2 (tApp D te))) := fun ito =>
    run_lev (Y := bCtx X B HB sc fp) cal rfl pi1 pg1 pt1 (plain1 _) hv2 ⟨_, _, _, _, rfl⟩ (fun j => turn3_1 e t i t1 i1 t2 i2 cs cs1 cs2 sc p j (.ref D) _) run2 start3_1
  refine walk_gen ⟨_, _, _, _, rfl⟩ (turn3_0 e t i t1 i1 t2 i2 cs cs1 cs2 sc p (.ref it) (.ref D) _) (Mid (bCtx X B HB sc fp) (wipe σ (own.map (·.2))) fp tn W) ?_ m0 ⟨0, HB, I4, st4, nfp, w0⟩
  rintro m s5 ⟨n, H5, I5, st5, n5, w5⟩
  rcases turn n m H5 w5 with ⟨stop, qq⟩ | ⟨go, Nx, hNx, step⟩
  · refine thnF (T.done (bCtx X B HB sc fp) rfl rfl rfl hc n [] s5 _ H5 (fun _ _ => False) I5 (aside rfl rfl I5 n5) st5 stop) fun r s6 ⟨hr, I6⟩ => ?_
    subst hr
    exact out s6 H5 I6 qq
  · refine thnF (T.item (bCtx X B HB sc fp) rfl rfl rfl hc n [] s5 _ H5 (fun _ _ => False) I5 (aside rfl rfl I5 n5) st5 go) fun r s6 ⟨u, hr, h6⟩ => ?_
    subst hr
    refine thnF h6 fun _ s7 ⟨x, H7, I7, r7, y7, st7, n7⟩ => ?_
    have I7' := I7.pinned (aside rfl rfl I7 n7) (T.obj _ _ st7)
    refine thnF (run_pg rfl pg I7' r7 (step x H7 y7)) fun _ s8 ⟨σ8, H8, I8, hw8, q8⟩ => ?_
    refine thnF (run_pts rfl pt I8 q8) fun b s9 ⟨H9, I9, q9⟩ => ?_
    have hl : (wipe σ (own.map (·.2))).length = σ8.length := by rw [← hw8, wipe_length]
    match b, q9 with
    | false, q9 => exact turn_end T st7 hNx I9 hl (fun j v ev => by rw [← hw8] at ev; exact (wipe_some ev).1) q9
    | true, q9 =>
      refine thnF (run1 (.ref it) _ s9 σ8 H9 Nx I9 q9) fun fin s10 ⟨ef, H10, I10, q10⟩ => ⟨ef, ?_⟩
      refine turn_end T st7 hNx I10 (hl.trans (wipe_length σ8 vs1).symm) (fun j v ev => ?_) q10
      rw [← hw8] at ev
      obtain ⟨e1, e2⟩ := wipe_some ev
      rw [wipe_out fun z => e2 (hv j z)]
      exact e1
end
end Cut
set_option Elab.async false
set_option linter.all false
set_option maxRecDepth 100000
set_option maxHeartbeats 8000000
namespace Cut
open PySem PySem.Spec PyProof.Rows L2
/-! ### ranges as values, walked -/
section
variable {X : Cx} {tg : Expr}
theorem cr_range1 : CallR X (.type "range") (fun vs H Q => ∃ j : Int, vs = [V.int j] ∧ ∀ p, H p = none → Q (.ref p) (upd H p (.rng 0 j))) := by
  intro pins s σ H vs us Q I r h
  obtain ⟨j, rfl, q⟩ := h
  obtain ⟨u, rfl, ru⟩ := r.one
  obtain ⟨t, rfl⟩ := ru
  refine call_range_1 ⟨.ref s.heap.objs.size, upd H s.heap.objs.size (.rng 0 j), I.laid (t' := s.toks + 1 + 1) (fun b o e => Heap.get?_push_of_some _ e) (Nat.le_refl _) ?_, rfl, q _ (I.hok.fresh (Nat.le_refl _))⟩
  exact ⟨s.toks, t, s.toks + 1, Heap.get?_push_size _ rfl⟩
def iRngV (te : TE) : TI := fun σ H R => te σ H fun x H1 => ∃ (a : Addr) (n : Nat), x = .ref a ∧ H1 a = some (.rng 0 n) ∧ n ≤ 1000 ∧ R (Itr 0 n) H1
theorem pi_rngV {e : Expr} {te : TE} (he : PE X e te) : PI X tg e (iRngV te) := by
  refine ⟨fun pins s σ H R I h => ?_⟩
  refine thn (he.run pins s σ H _ I h) fun v s1 ⟨x, H1, I1, r1, q1⟩ => ?_
  obtain ⟨a, n, rfl, ha, small, q⟩ := q1
  obtain rfl : v = Value.ref a := r1
  obtain ⟨t1, t2, t3, ho⟩ := I1.hok a _ ha
  refine wpAny_pyIter_range (a := 0) (b := (n : Int)) (c := 1) (t := t1) (u := t2) (v := t3) ho (small_one (by decide) (by decide) (by omega) (by omega)) ?_
  refine ⟨s1.heap.objs.size, [s1.heap.objs.size], _, _, H1, rfl, I1.kept (t' := s1.toks) fun b o e => Heap.get?_push_of_some _ e, turn_range _ 0 n, ?_, fun b hb => ?_, q⟩
  · have e1 : (0 : Int) + ((0 : Nat) : Int) * 1 = 0 := by simp
    have e2 : ((n : Nat) : Int) - ((0 : Nat) : Int) = Builtin.Range.rangeSize 0 n 1 := by rw [rangeSize_one]; split <;> omega
    show IsRangeIter _ _ ((0 : Int) + ((0 : Nat) : Int) * 1) (((n : Nat) : Int) - ((0 : Nat) : Int)) 1
    rw [e1, e2]
    exact Heap.get?_push_size _ rfl
  · have e : b = s1.heap.objs.size := by simpa using hb
    subst e
    exact I1.fpOk (Nat.le_refl _) (I1.hok.fresh (Nat.le_refl _))
end
/-! ### whether an order is a line, as the program looks at it -/
def g2N (f : Nat → Nat → Nat → Bool) (a s k : Nat) : List Bool := (List.range k).flatMap fun e => if a < e then [f a s e] else []
def g1N (f : Nat → Nat → Nat → Bool) (n a j : Nat) : List Bool := (List.range j).flatMap fun s => if s < a then g2N f a s n else []
def g0N (f : Nat → Nat → Nat → Bool) (n i : Nat) : List Bool := (List.range i).flatMap fun a => g1N f n a n
theorem g2_succ (f : Nat → Nat → Nat → Bool) (a s k : Nat) : g2N f a s (k + 1) = g2N f a s k ++ (if a < k then [f a s k] else []) := by
  unfold g2N
  rw [List.range_succ, List.flatMap_append]
  simp
theorem g1_succ (f : Nat → Nat → Nat → Bool) (n a j : Nat) : g1N f n a (j + 1) = g1N f n a j ++ (if j < a then g2N f a j n else []) := by
  unfold g1N
  rw [List.range_succ, List.flatMap_append]
  simp
theorem g0_succ (f : Nat → Nat → Nat → Bool) (n i : Nat) : g0N f n (i + 1) = g0N f n i ++ g1N f n i n := by
  unfold g0N
  rw [List.range_succ, List.flatMap_append]
  simp
theorem g2_len (f : Nat → Nat → Nat → Bool) (a s : Nat) : ∀ k, (g2N f a s k).length ≤ k
  | 0 => Nat.le_refl _
  | k + 1 => by
    have := g2_len f a s k
    rw [g2_succ, List.length_append]
    split <;> simp <;> omega
theorem g1_len (f : Nat → Nat → Nat → Bool) (n a : Nat) : ∀ j, (g1N f n a j).length ≤ n * j
  | 0 => Nat.le_refl _
  | j + 1 => by
    have h1 := g1_len f n a j
    have h2 := g2_len f a j n
    rw [g1_succ, List.length_append, Nat.mul_succ]
    split
    · omega
    · simp; omega
theorem g0_len (f : Nat → Nat → Nat → Bool) (n : Nat) : ∀ i, (g0N f n i).length ≤ n * n * i
  | 0 => Nat.le_refl _
  | i + 1 => by
    have h1 := g0_len f n i
    have h2 := g1_len f n i n
    rw [g0_succ, List.length_append, Nat.mul_succ]
    omega
theorem g0_all (f : Nat → Nat → Nat → Bool) (n : Nat) : (g0N f n n).all id = true ↔ ∀ s a e, s < a → a < e → e < n → f a s e = true := by
  rw [List.all_eq_true]
  constructor
  · intro h s a e h1 h2 h3
    refine h _ (List.mem_flatMap.mpr ⟨a, List.mem_range.mpr (by omega), List.mem_flatMap.mpr ⟨s, List.mem_range.mpr (by omega), ?_⟩⟩)
    rw [if_pos h1]
    exact List.mem_flatMap.mpr ⟨e, List.mem_range.mpr h3, by rw [if_pos h2]; exact List.mem_singleton.mpr rfl⟩
  · intro h b hb
    obtain ⟨a, ha, hb⟩ := List.mem_flatMap.mp hb
    obtain ⟨s, hs, hb⟩ := List.mem_flatMap.mp hb
    by_cases c : s < a
    · rw [if_pos c] at hb
      obtain ⟨e, he, hb⟩ := List.mem_flatMap.mp hb
      by_cases c2 : a < e
      · rw [if_pos c2] at hb
        rw [List.mem_singleton.mp hb]
        exact h s a e c c2 (List.mem_range.mp he)
      · rw [if_neg c2] at hb
        simp at hb
    · rw [if_neg c] at hb
      simp at hb
theorem sub_three {p : List Nat} {a b c : Nat} : [a, b, c].Sublist p ↔ ∃ i j k : Nat, i < j ∧ j < k ∧ p[i]? = some a ∧ p[j]? = some b ∧ p[k]? = some c := by
  constructor
  · intro h
    obtain ⟨is, e, pw⟩ := List.sublist_eq_map_getElem h
    match is, e, pw with
    | [i, j, k], e, pw =>
      simp only [List.map_cons, List.map_nil, List.cons.injEq, and_true] at e
      obtain ⟨e1, e2, e3⟩ := e
      simp only [List.pairwise_cons, List.mem_cons, List.not_mem_nil, or_false, forall_eq_or_imp, forall_eq, false_implies, implies_true, List.Pairwise.nil, and_true] at pw
      obtain ⟨⟨h1, h2⟩, h3⟩ := pw
      exact ⟨i, j, k, h1, h3, by rw [List.getElem?_eq_getElem i.isLt, e1]; rfl, by rw [List.getElem?_eq_getElem j.isLt, e2]; rfl, by rw [List.getElem?_eq_getElem k.isLt, e3]; rfl⟩
  · rintro ⟨i, j, k, h1, h2, e1, e2, e3⟩
    obtain ⟨l1, e1⟩ := List.getElem?_eq_some_iff.mp e1
    obtain ⟨l2, e2⟩ := List.getElem?_eq_some_iff.mp e2
    obtain ⟨l3, e3⟩ := List.getElem?_eq_some_iff.mp e3
    have := List.map_getElem_sublist (l := p) (is := [⟨i, l1⟩, ⟨j, l2⟩, ⟨k, l3⟩]) (by
      simp only [List.pairwise_cons, List.mem_cons, List.not_mem_nil, or_false, forall_eq_or_imp, forall_eq, false_implies, implies_true, List.Pairwise.nil, and_true]
      exact ⟨⟨h1, Nat.lt_trans h1 h2⟩, h2⟩)
    simp only [List.map_cons, List.map_nil] at this
    rw [← e1, ← e2, ← e3]
    exact this
noncomputable def chkN (ats : List Atm) (p : List Nat) (a s e : Nat) : Bool := !cwB ats (p.getD a 0) (p.getD s 0) (p.getD e 0)
theorem line_chk {ats : List Atm} {p : List Nat} (nd : p.Nodup) (lt : ∀ j ∈ p, j < ats.length) : (g0N (chkN ats p) p.length p.length).all id = lineB ats p := by
  have key : (g0N (chkN ats p) p.length p.length).all id = true ↔ lineB ats p = true := by
    rw [g0_all, lineB_iff]
    constructor
    · intro h a b c s
      obtain ⟨i, j, k, h1, h2, e1, e2, e3⟩ := sub_three.mp s
      have z := h i j k h1 h2 (List.getElem?_eq_some_iff.mp e3).1
      unfold chkN at z
      rw [List.getD_eq_getElem?_getD, List.getD_eq_getElem?_getD, List.getD_eq_getElem?_getD, e1, e2, e3] at z
      have z : (!cwB ats b a c) = true := z
      rw [Bool.not_eq_true'] at z
      have ac : a ≠ c := fun e => by
        rw [e] at e1
        obtain ⟨l1, q1⟩ := List.getElem?_eq_some_iff.mp e1
        obtain ⟨l3, q3⟩ := List.getElem?_eq_some_iff.mp e3
        have := nodup_inj nd l1 l3 (q1.trans q3.symm)
        omega
      rintro (e | w)
      · exact ac e
      · exact cwB_false.mp z w
    · intro h s a e h1 h2 h3
      have g : ∀ {i : Nat}, i < p.length → p[i]? = some (p.getD i 0) := fun {i} hi => by
        rw [List.getD_eq_getElem?_getD, List.getElem?_eq_getElem hi]
        rfl
      have z := h _ _ _ (sub_three.mpr ⟨s, a, e, h1, h2, g (by omega), g (by omega), g h3⟩)
      unfold chkN
      rw [Bool.not_eq_true']
      exact cwB_false.mpr fun w => z (.inr w)
  cases c : lineB ats p with
  | true => exact key.mpr c
  | false =>
    cases d : (g0N (chkN ats p) p.length p.length).all id with
    | false => rfl
    | true => rw [key.mp d] at c; cases c
end Cut
set_option Elab.async false
set_option linter.all false
set_option maxRecDepth 100000
set_option maxHeartbeats 8000000
namespace Cut
open PySem PySem.Spec PyProof.Rows L2
abbrev NIl : List Str := ["reached", "order", "places", "at", "start", "end"]
theorem scIsLine : FnScope NIl ["reached", "order"] (defScope sIsLineP) := ⟨rfl, rfl, rfl, by decide +kernel, rfl, by decide +kernel, by decide +kernel⟩
section
variable {P : Program} {w : World} {K : PySem.W.Frag} {mg : Str → Option Value} {base : Heap}
def spIsLine (K : PySem.W.Frag) : Sp := fun vs H Q _ => ∃ (R o : Addr) (ats : List Atm) (T p : List Nat), vs = [.ref R, .ref o] ∧ RchAt H R ats T ∧ Few ats ∧ (ats.map (·.1)).Nodup ∧ T.Nodup ∧ (∀ k ∈ T, k < ats.length) ∧ SqT K H o (tabsV ats p) ∧ p.Nodup ∧ (∀ j ∈ p, j ∈ T) ∧
  ∀ (H' : Hp), Same H H' → Q (.bl (lineB ats p)) H'
theorem ok_isLine {f : Addr} {fd : FuncData} (F : Fun K "_is_line" "_is_line" sIsLineP f fd) (B : Blt mg) (mAll : mg "all" = none) : FnOk P w K mg base CX0 1 f fd ["reached", "order"] (spIsLine K) := by
  refine F.ok scIsLine (fun vs H Q E h => ?_) (fun cdv A outer s H vs Q E hr h => ?_)
  · obtain ⟨R, o, ats, T, p, rfl, _⟩ := h
    rfl
  · obtain ⟨R, o, ats, T, p, rfl, rch, few, dist, ndT, ltT, ho, ndp, subp, fin⟩ := h
    have nd := scIsLine.nd
    have hu := hu_of hr
    have fm := few.many
    have lt : ∀ j ∈ p, j < ats.length := fun j hj => ltT j (subp j hj)
    have lp := few_below ndp lt
    refine ⟨_, pss_cons (ps_set (i := 2) nd rfl (.inr rfl) (pe_callTy (T := "range") cr_range1 (by rfl) B.range (by decide +kernel) (pa_cons (pe_callB call_len_seq (by rfl) B.len PySem.boot_len (pa_cons (pv 1) pa_nil)) pa_nil)))
      (pss_one (ps_ret (pe_callB (id := "all") (r := rAll K) (cr_all (by rfl)) (by rfl) mAll (by decide +kernel) (pa_cons
        (pe_lc3 (own := [("at", 3), ("start", 4), ("end", 5)]) (vs1 := [4, 5]) (vs2 := [5]) (g := gName 3) (g1 := gName 4) (g2 := gName 5) (tt := tYes) (tt1 := tTest (tOp (fun x y H Q => ∃ i j : Int, x = .int i ∧ y = .int j ∧ Q (.bl (decide (i < j))) H) (tVar 4) (tVar 3))) (tt2 := tTest (tOp (fun x y H Q => ∃ i j : Int, x = .int i ∧ y = .int j ∧ Q (.bl (decide (j < i))) H) (tVar 5) (tVar 3)))
          (wi1 := iRngV (tVar 2)) (wi2 := iRngV (tVar 2)) (te := tDNotIn (tOp (rIxT K) (tVar 1) (tVar 5)) (tDGet (tDGet (tVar 0) (tOp (rIxT K) (tVar 1) (tVar 3))) (tOp (rIxT K) (tVar 1) (tVar 4)))) (by rfl) nd
          (pi_rngV (pv 2)) (blkOk_by (own := [("at", 3), ("start", 4), ("end", 5)]) (N := NIl) (sc := defScope sIsLineP) (by decide +kernel)) (by decide) (by decide)
          (fun _ _ _ _ _ => pg_name (i := 3) nd rfl (Or.inl rfl)) (fun _ _ _ _ _ => pts_nil)
          (fun _ _ _ _ _ => pi_rngV (pv 2)) (fun _ _ _ _ _ => pg_name (i := 4) nd rfl (Or.inl rfl)) (fun _ _ _ _ _ => pts_one (pt_cmpR op_lt (pv 4) (pv 3) (nomark _)))
          (fun _ _ _ _ _ => pi_rngV (pv 2)) (fun _ _ _ _ _ => pg_name (i := 5) nd rfl (Or.inl rfl)) (fun _ _ _ _ _ => pts_one (pt_cmpR op_gt (pv 5) (pv 3) (nomark _)))
          (fun _ _ _ _ _ => pe_cmp (pc_dnotin hu (pe_ix ix_tup (pv 1) (pv 5) (fun _ _ => rfl)) (pe_dget hu (pe_dget hu (pv 0) (pe_ix ix_tup (pv 1) (pv 3) (fun _ _ => rfl)) (fun _ _ => rfl)) (pe_ix ix_tup (pv 1) (pv 4) (fun _ _ => rfl)) (fun _ _ => rfl))))) pa_nil)))), ?_⟩
    have len1 : (tabsV ats p).length = p.length := List.length_map ..
    have at_ : ∀ {i : Nat}, i < p.length → atI (tabsV ats p) ((0 : Int) + (i : Nat)) = some (.str (tabAt ats (p.getD i 0))) ∧ p.getD i 0 ∈ p := fun {i} hi => by
      have e : p[i]? = some (p.getD i 0) := by rw [List.getD_eq_getElem?_getD, List.getElem?_eq_getElem hi]; rfl
      refine ⟨?_, List.mem_of_getElem? e⟩
      rw [Int.zero_add]
      refine atI_nat ?_
      unfold tabsV
      rw [List.getElem?_map, e]
      rfl
    have small : ∀ (i : Nat), i ≤ p.length → (g0N (chkN ats p) p.length i).length ≤ 216 := fun i hi => by
      have h1 := g0_len (chkN ats p) p.length i
      have h2 : p.length ≤ 6 := by omega
      have h3 : p.length * p.length * i ≤ 6 * 6 * 6 := Nat.mul_le_mul (Nat.mul_le_mul h2 h2) (by omega)
      omega
    have small1 : ∀ (i j : Nat), j ≤ p.length → (g1N (chkN ats p) p.length i j).length ≤ 36 := fun i j hj => by
      have h1 := g1_len (chkN ats p) p.length i j
      have h2 : p.length ≤ 6 := by omega
      have h3 : p.length * j ≤ 6 * 6 := Nat.mul_le_mul h2 (by omega)
      omega
    refine ⟨_, rfl, o, _, rfl, .inr ho, _, rfl, fun pr npr => ?_⟩
    rw [len1]
    have s0 : Same H (upd H pr (.rng 0 (p.length : Nat))) := same_new npr
    have hpr : upd H pr (.rng 0 (p.length : Nat)) pr = some (.rng 0 (p.length : Nat)) := upd_same
    generalize upd H pr (.rng 0 (p.length : Nat)) = Ha at s0 hpr ⊢
    refine ⟨_, rfl, pr, p.length, rfl, hpr, by omega, fun D nD => ?_⟩
    refine walk_rng (lo := 0) (n := p.length) (fun i H7 => Same Ha H7 ∧ H7 D = some (.lst ((g0N (chkN ats p) p.length i).map V.bl))) ⟨same_new nD, upd_same⟩ ?_ ?_
    · rintro i H7 hi ⟨sm, hD⟩
      refine ⟨rfl, ?_⟩
      refine tyes ?_
      refine ⟨_, rfl, pr, p.length, rfl, sm _ _ hpr, by omega, ?_⟩
      refine walk_rng (lo := 0) (n := p.length) (fun j H8 => Same Ha H8 ∧ H8 D = some (.lst ((g0N (chkN ats p) p.length i ++ g1N (chkN ats p) p.length i j).map V.bl))) ⟨sm, by
        show H7 D = some (.lst ((g0N (chkN ats p) p.length i ++ []).map V.bl))
        rw [List.append_nil]
        exact hD⟩ ?_ ?_
      · rintro j H8 hj ⟨sm8, hD8⟩
        refine ⟨rfl, ?_⟩
        refine ⟨_, rfl, _, rfl, _, _, rfl, rfl, _, rfl, ?_⟩
        by_cases c : j < i
        · rw [decide_eq_true (by omega : (0 : Int) + (j : Nat) < 0 + (i : Nat))]
          refine iteT ?_
          refine ⟨_, rfl, pr, p.length, rfl, sm8 _ _ hpr, by omega, ?_⟩
          refine walk_rng (lo := 0) (n := p.length) (fun k H9 => Same Ha H9 ∧ H9 D = some (.lst ((g0N (chkN ats p) p.length i ++ g1N (chkN ats p) p.length i j ++ g2N (chkN ats p) i j k).map V.bl))) ⟨sm8, by
            show H8 D = some (.lst ((g0N (chkN ats p) p.length i ++ g1N (chkN ats p) p.length i j ++ []).map V.bl))
            rw [List.append_nil]
            exact hD8⟩ ?_ ?_
          · rintro k H9 hk ⟨sm9, hD9⟩
            refine ⟨rfl, ?_⟩
            refine ⟨_, rfl, _, rfl, _, _, rfl, rfl, _, rfl, ?_⟩
            by_cases c2 : i < k
            · rw [decide_eq_true (by omega : (0 : Int) + (i : Nat) < 0 + (k : Nat))]
              have sH := s0.trans sm9
              have ho9 := seqT sH ho
              obtain ⟨ai, mi⟩ := at_ hi
              obtain ⟨aj, mj⟩ := at_ hj
              obtain ⟨ak, mk⟩ := at_ hk
              obtain ⟨r, a, L, d1, d2, ah⟩ := (rch.same sH).get dist ltT ndT (subp _ mi) (subp _ mj)
              obtain ⟨oo, d3, e3⟩ := ah.has dist (lt _ mk)
              have hlen : (g0N (chkN ats p) p.length i ++ g1N (chkN ats p) p.length i j ++ g2N (chkN ats p) i j k).length ≤ 900 := by
                have h1 := small i (by omega)
                have h2 := small1 i j (by omega)
                have h3 := g2_len (chkN ats p) i j k
                rw [List.length_append, List.length_append]
                omega
              refine iteT ⟨_, rfl, _, rfl, o, _, _, _, rfl, rfl, ho9, ak, _, rfl, _, rfl, _, rfl, o, _, _, _, rfl, rfl, ho9, ai, R, _, rfl, d1, _, rfl, _, rfl, o, _, _, _, rfl, rfl, ho9, aj, r, _, rfl, d2, a, oo, rfl, d3, _, hD9, ?_, fun b u e => ?_, ?_⟩
              · rw [List.length_map]
                exact small1000 (by omega)
              · rw [upd_ne (ne_of_none e nD)]
                exact sm9 _ _ e
              · rw [upd_same, g2_succ, if_pos c2, e3, ← List.append_assoc, List.map_append (l₂ := [chkN ats p i j k])]
                rfl
            · rw [decide_eq_false (by omega : ¬ (0 : Int) + (i : Nat) < 0 + (k : Nat))]
              refine iteF ⟨sm9, ?_⟩
              rw [g2_succ, if_neg c2, List.append_nil]
              exact hD9
          · rintro H9 ⟨sm9, hD9⟩
            refine ⟨sm9, ?_⟩
            rw [g1_succ, if_pos c, ← List.append_assoc]
            exact hD9
        · rw [decide_eq_false (by omega : ¬ (0 : Int) + (j : Nat) < 0 + (i : Nat))]
          refine iteF ⟨sm8, ?_⟩
          rw [g1_succ, if_neg c, List.append_nil]
          exact hD8
      · rintro H8 ⟨sm8, hD8⟩
        refine ⟨sm8, ?_⟩
        rw [g0_succ]
        exact hD8
    · rintro H7 ⟨sm, hD⟩
      refine ⟨D, _, rfl, SqL.of hD, ?_⟩
      rw [line_chk ndp lt]
      exact fin H7 (s0.trans sm)
end
end Cut
set_option Elab.async false
set_option linter.all false
set_option maxRecDepth 100000
set_option maxHeartbeats 8000000
namespace Cut
open PySem PySem.Spec PyProof.Rows L2
/-! ### the line, as the program finds it -/
theorem find_at {α : Type} {q : α → Bool} : ∀ {l : List α} {i : Nat} {x : α}, l[i]? = some x → q x = true → (∀ (j : Nat) (y : α), j < i → l[j]? = some y → q y = false) → l.find? q = some x
  | [], i, x, e, _, _ => by simp at e
  | z :: r, 0, x, e, h, _ => by
    cases e
    rw [List.find?_cons, h]
  | z :: r, i + 1, x, e, h, no => by
    rw [List.find?_cons, no 0 z (by omega) rfl]
    exact find_at (l := r) e h fun j y hj ey => no (j + 1) y (by omega) ey
theorem find_no {α : Type} {q : α → Bool} {l : List α} (no : ∀ (j : Nat) (y : α), l[j]? = some y → q y = false) : l.find? q = none := List.find?_eq_none.mpr fun x hx h => by
  obtain ⟨j, hj, e⟩ := List.getElem_of_mem hx
  rw [no j x (by rw [List.getElem?_eq_getElem hj, e])] at h
  cases h
theorem for_perm {xs : List V} {σ0 : L2.St} {H0 : Hp} {Done : L2.St → Hp → Prop} {Body : Nat → V → L2.St → Hp → (L2.St → Hp → Prop) → Prop} (Pv : Nat → L2.St → Hp → Prop) (h0 : Pv 0 σ0 H0)
    (turn : ∀ i s σ H T, (ordersP xs.length)[i]? = some s → Pv i σ H → H T = none → Body i (.ref T) σ (upd H T (.tup (ordV xs s.1))) (Pv (i + 1))) (fin : ∀ σ H, Pv (ordersP xs.length).length σ H → Done σ H) :
    ∃ W : Nat → Nat → L2.St → Hp → Prop, (∃ m, W 0 m σ0 H0) ∧ ∀ i m σ H, W i m σ H →
      ((Itp xs).stop i H ∧ Done σ H) ∨ ((Itp xs).go i H ∧ ∃ Nx : L2.St → Hp → Prop, (∀ σ' H', Nx σ' H' → ∃ m', m' < m ∧ W (i + 1) m' σ' H') ∧ ∀ x H', (Itp xs).yld i H x H' → Body i x σ H' Nx) := by
  refine ⟨fun i m σ H => m + i = (ordersP xs.length).length ∧ Pv i σ H, ⟨_, rfl, h0⟩, fun i m σ H h => ?_⟩
  obtain ⟨em, p⟩ := h
  by_cases lt : i < (ordersP xs.length).length
  · refine .inr ⟨lt, Pv (i + 1), fun σ' H' p' => ⟨m - 1, by omega, by omega, p'⟩, fun x H' y => ?_⟩
    obtain ⟨T, s, hs, rfl, hT, rfl⟩ := y
    exact turn i s σ H T hs p hT
  · have e : i = (ordersP xs.length).length := by omega
    subst e
    exact .inl ⟨Nat.le_refl _, fin σ H p⟩
theorem for_comb {xs : List V} {σ0 : L2.St} {H0 : Hp} {Done : L2.St → Hp → Prop} {Body : Nat → V → L2.St → Hp → (L2.St → Hp → Prop) → Prop} (Pv : Nat → L2.St → Hp → Prop) (h0 : Pv 0 σ0 H0)
    (turn : ∀ i s σ H T, (choicesP xs.length)[i]? = some s → Pv i σ H → H T = none → Body i (.ref T) σ (upd H T (.tup (ordV xs s))) (Pv (i + 1))) (fin : ∀ σ H, Pv (choicesP xs.length).length σ H → Done σ H) :
    ∃ W : Nat → Nat → L2.St → Hp → Prop, (∃ m, W 0 m σ0 H0) ∧ ∀ i m σ H, W i m σ H →
      ((Itq xs).stop i H ∧ Done σ H) ∨ ((Itq xs).go i H ∧ ∃ Nx : L2.St → Hp → Prop, (∀ σ' H', Nx σ' H' → ∃ m', m' < m ∧ W (i + 1) m' σ' H') ∧ ∀ x H', (Itq xs).yld i H x H' → Body i x σ H' Nx) := by
  refine ⟨fun i m σ H => m + i = (choicesP xs.length).length ∧ Pv i σ H, ⟨_, rfl, h0⟩, fun i m σ H h => ?_⟩
  obtain ⟨em, p⟩ := h
  by_cases lt : i < (choicesP xs.length).length
  · refine .inr ⟨lt, Pv (i + 1), fun σ' H' p' => ⟨m - 1, by omega, by omega, p'⟩, fun x H' y => ?_⟩
    obtain ⟨T, s, hs, rfl, hT, rfl⟩ := y
    exact turn i s σ H T hs p hT
  · have e : i = (choicesP xs.length).length := by omega
    subst e
    exact .inl ⟨Nat.le_refl _, fin σ H p⟩
theorem ord_tabs (ats : List Atm) (T ix : List Nat) (h : ∀ k ∈ ix, k < T.length) : ordV (tabsV ats T) ix = tabsV ats (ix.map (T.getD · 0)) := by
  unfold ordV tabsV
  rw [List.map_map]
  refine List.map_congr_left fun k hk => ?_
  have := h k hk
  show (List.map _ T).getD k .non = V.str (tabAt ats (T.getD k 0))
  rw [List.getD_eq_getElem?_getD, List.getElem?_map, List.getElem?_eq_getElem this, List.getD_eq_getElem?_getD, List.getElem?_eq_getElem this]
  rfl
theorem asc_nodup {T : List Nat} (h : T.Pairwise (· < ·)) : T.Nodup := lt_nodup h
theorem asc_pick {T : List Nat} {n : Nat} (asc : T.Pairwise (· < ·)) (lt : ∀ k ∈ T, k < n) : (List.range n).filter (fun k => decide (k ∈ T)) = T := by
  have p : ((List.range n).filter (fun k => decide (k ∈ T))).Perm T := (List.perm_ext_iff_of_nodup (List.filter_sublist.nodup List.nodup_range) (lt_nodup asc)).mpr fun k => by
    rw [List.mem_filter, List.mem_range, decide_eq_true_iff]
    exact ⟨fun z => z.2, fun z => ⟨lt k z, z⟩⟩
  exact List.Perm.eq_of_pairwise (le := (· < ·)) (fun a b _ _ h1 h2 => absurd h1 (by omega)) (asc_filter _ _) asc p
abbrev NIo : List Str := ["question", "tables", "table", "_"]
theorem scInOrder : FnScope NIo ["question", "tables"] (defScope sInOrder) := ⟨rfl, rfl, rfl, by decide +kernel, rfl, by decide +kernel, by decide +kernel⟩
section
variable {P : Program} {w : World} {K : PySem.W.Frag} {mg : Str → Option Value} {base : Heap}
/-- a question, and some of its tables in the order of the atoms -/
structure QTb (K : PySem.W.Frag) (H : Hp) (q tl : Addr) (ats : List Atm) (T : List Nat) : Prop where
  q : ∃ head, QAt K H q head ats
  few : Few ats
  dist : (ats.map (·.1)).Nodup
  tl : SqT K H tl (tabsV ats T)
  asc : T.Pairwise (· < ·)
  lt : ∀ k ∈ T, k < ats.length
theorem QTb.same {H H' : Hp} {q tl : Addr} {ats : List Atm} {T : List Nat} (x : QTb K H q tl ats T) (e : Same H H') : QTb K H' q tl ats T := ⟨let ⟨h, y⟩ := x.q; ⟨h, y.same e⟩, x.few, x.dist, seqT e x.tl, x.asc, x.lt⟩
theorem QTb.nd {H : Hp} {q tl : Addr} {ats : List Atm} {T : List Nat} (x : QTb K H q tl ats T) : T.Nodup := asc_nodup x.asc
theorem QTb.six {H : Hp} {q tl : Addr} {ats : List Atm} {T : List Nat} (x : QTb K H q tl ats T) : T.length ≤ 6 := Nat.le_trans (few_below x.nd x.lt) x.few.many
def spInOrder (K : PySem.W.Frag) : Sp := fun vs H Q _ => ∃ (q tl : Addr) (ats : List Atm) (T : List Nat), vs = [.ref q, .ref tl] ∧ QTb K H q tl ats T ∧
  ∀ (H' : Hp) (l : Addr), Same H H' → H l = none → H' l = some (.lst (tabsV ats T)) → Q (.ref l) H'
theorem ok_inOrder {f : Addr} {fd : FuncData} (F : Fun K "_in_order" "_in_order" sInOrder f fd) : FnOk P w K mg base CX0 1 f fd ["question", "tables"] (spInOrder K) := by
  refine F.ok scInOrder (fun vs H Q E h => ?_) (fun cdv A outer s H vs Q E hr h => ?_)
  · obtain ⟨q, tl, ats, T, rfl, _⟩ := h
    rfl
  · obtain ⟨q, tl, ats, T, rfl, x, fin⟩ := h
    obtain ⟨head, hd, sa, us, hq1, hq2, hq3, hq4⟩ := x.q
    have nd := scInOrder.nd
    have few := x.few
    have fm := few.many
    have len4 := paired_len hq4
    refine ⟨_, pss_one (ps_ret (pe_lc (own := [("table", 2), ("_", 3)]) (g := gTup K 2 (gCons (gName 2) (gCons (gName 3) gNil))) (tt := tTest (tOp (rIn K false) (tVar 2) (tVar 1))) (te := tVar 2) (by rfl) nd
      (pi_tup (pe_ix ix_tup (pv 0) pe_int (fun _ _ => rfl))) (blkOk_by (own := [("table", 2), ("_", 3)]) (N := NIo) (sc := defScope sInOrder) (by decide +kernel))
      (fun _ _ _ _ _ => pg_tup (by rfl) (pgs_cons (pg_name (i := 2) nd rfl (.inl rfl)) (pgs_cons (pg_name (i := 3) nd rfl (.inl rfl)) pgs_nil))) (fun _ _ _ _ _ => pts_one (pt_cmpR op_in_seq (pv 2) (pv 1) (by rfl))) (fun _ _ _ _ _ => pv 2))), ?_⟩
    refine ⟨_, rfl, q, _, 1, .ref sa, rfl, rfl, hq1, rfl, sa, rfl, ⟨_, hq3⟩, fun D nD => ?_⟩
    refine walk_tup (xs := us) (fun i H7 => Same H H7 ∧ H7 D = some (.lst (tabsV ats (((List.range ats.length).take i).filter fun k => decide (k ∈ T))))) ⟨same_new nD, upd_same⟩ (fun i H7 _ h => seqT h.1 hq3) ?_ ?_
    · rintro i y H7 hy ⟨sm, hD⟩
      obtain ⟨t, ht, c, p, rfl, h1, h2⟩ := paired_get hq4 hy
      have hi := (List.getElem?_eq_some_iff.mp ht).1
      have et := tab_get ht
      have rt := range_take_filter ats.length i (fun k => decide (k ∈ T)) hi
      have h1' : SqT K H7 c [.str (tabAt ats i), .ref p] := by rw [et]; exact seqT sm h1
      refine ⟨c, [.str (tabAt ats i), .ref p], rfl, h1', rfl, .str (tabAt ats i), [.ref p], rfl, .ref p, [], rfl, rfl, rfl, ?_⟩
      refine ⟨_, rfl, _, rfl, tl, _, rfl, .inr (seqT sm x.tl), rfl, flat_tabs ats T, _, rfl, ?_⟩
      rw [if_neg Bool.false_ne_true, in_tabs x.dist hi x.lt]
      by_cases hT : i ∈ T
      · rw [if_pos (decide_eq_true hT)] at rt
        rw [decide_eq_true hT]
        refine iteT ⟨_, rfl, _, hD, ?_, fun b u e => ?_, ?_⟩
        · unfold tabsV
          rw [List.length_map]
          refine small1000 (Nat.le_trans (List.length_filter_le _ _) ?_)
          rw [List.length_take]
          omega
        · rw [upd_ne (ne_of_none e nD)]
          exact sm _ _ e
        · rw [upd_same, rt]
          unfold tabsV
          rw [List.map_append]
          rfl
      · rw [if_neg (by rw [decide_eq_false hT]; exact Bool.false_ne_true), List.append_nil] at rt
        rw [decide_eq_false hT]
        refine iteF ⟨sm, ?_⟩
        rw [rt]
        exact hD
    · rintro H7 ⟨sm, hD⟩
      rw [len4, List.take_of_length_le (by rw [List.length_range]; exact Nat.le_refl _), asc_pick x.asc x.lt] at hD
      exact fin H7 D sm nD hD
abbrev NLo : List Str := ["question", "tables", "reached", "inside", "order"]
theorem scLineOf : FnScope NLo ["question", "tables"] (defScope sLineOf) := ⟨rfl, rfl, rfl, by decide +kernel, rfl, by decide +kernel, by decide +kernel⟩
/-- what is told of a line -/
def LnAt (K : PySem.W.Frag) (H : Hp) (ats : List Atm) (v : V) : Option (List Nat) → Prop
  | none => v = .non
  | some p => ∃ a, v = .ref a ∧ SqT K H a (tabsV ats p)
def spLineOf (K : PySem.W.Frag) : Sp := fun vs H Q _ => ∃ (q tl : Addr) (ats : List Atm) (T : List Nat), vs = [.ref q, .ref tl] ∧ QTb K H q tl ats T ∧
  ∀ (H' : Hp) (v : V), Same H H' → LnAt K H' ats v (lineN ats T) → Q v H'
theorem ok_lineOf {f fR fI fL : Addr} {fd fdR fdI fdL : FuncData} (F : Fun K "line_of" "line_of" sLineOf f fd) (mP : mg "permutations" = some (.type pT))
    (FR : Fun K "_reached" "_reached" sReachedAll fR fdR) (bR : Binds K fdR ["question", "tables"] []) (gR : mg "_reached" = some (.ref fR)) (GR : FnOk P w K mg base CX0 3 fR fdR ["question", "tables"] (spReachA K))
    (FI : Fun K "_in_order" "_in_order" sInOrder fI fdI) (bI : Binds K fdI ["question", "tables"] []) (gI : mg "_in_order" = some (.ref fI)) (GI : FnOk P w K mg base CX0 1 fI fdI ["question", "tables"] (spInOrder K))
    (FL : Fun K "_is_line" "_is_line" sIsLineP fL fdL) (bL : Binds K fdL ["reached", "order"] []) (gL : mg "_is_line" = some (.ref fL)) (GL : FnOk P w K mg base CX0 1 fL fdL ["reached", "order"] (spIsLine K)) :
    FnOk P w K mg base CX0 4 f fd ["question", "tables"] (spLineOf K) := by
  refine F.ok scLineOf (fun vs H Q E h => ?_) (fun cdv A outer s H vs Q E hr h => ?_)
  · obtain ⟨q, tl, ats, T, rfl, _⟩ := h
    rfl
  · obtain ⟨q, tl, ats, T, rfl, x, fin⟩ := h
    have nd := scLineOf.nd
    have hr1 : Room 1 _ := hr.mono (by decide)
    refine ⟨_, pss_cons (ps_set (i := 2) nd rfl (.inl rfl) (pe_call GR hr (by rfl) gR FR.kp bR .nil pass0 (pa_cons (pv 0) (pa_cons (pv 1) pa_nil))))
      (pss_cons (ps_set (i := 3) nd rfl (.inl rfl) (pe_call GI hr1 (by rfl) gI FI.kp bI .nil pass0 (pa_cons (pv 0) (pa_cons (pv 1) pa_nil))))
      (pss_cons (ps_for PassesOwn.never rfl (pi_perms (by rfl) mP (pa_cons (pv 3) pa_nil)) (pg_name (i := 4) nd rfl (.inl rfl))
        (pss_one (ps_if (pt_val (pe_call GL hr1 (by rfl) gL FL.kp bL .nil pass0 (pa_cons (pv 2) (pa_cons (pv 4) pa_nil)))) (pss_one (ps_ret (pv 4))) pss_nil)))
      (pss_one (ps_ret pe_non)))), ?_⟩
    obtain ⟨head, hq⟩ := x.q
    refine ⟨_, rfl, _, rfl, q, tl, head, ats, T, rfl, hq, x.few, x.dist, x.tl, x.nd, x.lt, fun H1 R s1 nR rch => ?_⟩
    refine ⟨_, rfl, _, rfl, q, tl, ats, T, rfl, x.same s1, fun H2 l s2 nl hl => ?_⟩
    have s12 := s1.trans s2
    have tlen : (tabsV ats T).length = T.length := List.length_map ..
    have six := x.six
    have ndT := x.nd
    obtain ⟨o1, o2, o3, o4⟩ := orders_ok (n := T.length) six
    have PS : (ordersP T.length).map (fun s => s.1.map (T.getD · 0)) = lexP T.length T := by
      rw [← lex_range ndT, ← o4, List.map_map]
      rfl
    refine ⟨_, rfl, l, _, rfl, SqL.of hl, by rw [tlen]; exact six, ?_⟩
    refine for_perm (xs := tabsV ats T) (fun i σ H' => ∃ x4 : Option V, σ = [some (.ref q), some (.ref tl), some (.ref R), some (.ref l), x4] ∧ Same H2 H' ∧ ∀ (j : Nat) (p : List Nat), j < i → (lexP T.length T)[j]? = some p → lineB ats p = false)
      ⟨none, rfl, Same.refl H2, fun j p hj => absurd hj (Nat.not_lt_zero j)⟩ ?_ ?_
    · rintro i so σ H3 Ta hso ⟨x4, rfl, s3, no⟩ nTa
      rw [tlen] at hso
      have hmem := List.mem_of_getElem? hso
      obtain ⟨l1, l2, l3⟩ := o3 so hmem
      have hp : (lexP T.length T)[i]? = some (so.1.map (T.getD · 0)) := by rw [← PS, List.getElem?_map, hso]; rfl
      have perm := lex_perm rfl ndT (List.mem_of_getElem? hp)
      rw [ord_tabs ats T so.1 l3]
      have s4 := s3.trans (same_new (o := .tup (tabsV ats (so.1.map (T.getD · 0)))) nTa)
      have hTa : upd H3 Ta (.tup (tabsV ats (so.1.map (T.getD · 0)))) Ta = some (.tup (tabsV ats (so.1.map (T.getD · 0)))) := upd_same
      generalize upd H3 Ta (.tup (tabsV ats (so.1.map (T.getD · 0)))) = H4 at s4 hTa ⊢
      generalize so.1.map (T.getD · 0) = pp at hp perm hTa ⊢
      refine ⟨_, rfl, _, rfl, R, Ta, ats, T, pp, rfl, rch.same (s2.trans s4), x.few, x.dist, ndT, x.lt, SqT.of hTa, perm.nodup_iff.mpr ndT, fun j hj => perm.mem_iff.mp hj, fun H5 s5 => ⟨_, rfl, ?_⟩⟩
      cases c : lineB ats pp with
      | true =>
        refine iteT ⟨_, rfl, ?_⟩
        refine fin H5 _ (s12.trans (s4.trans s5)) ?_
        have e : lineN ats T = some pp := find_at hp c no
        rw [e]
        exact ⟨Ta, rfl, SqT.of (s5 _ _ hTa)⟩
      | false =>
        refine iteF ⟨_, rfl, s4.trans s5, fun j p hj hjp => ?_⟩
        by_cases cj : j = i
        · rw [cj, hp] at hjp
          cases hjp
          exact c
        · exact no j p (by omega) hjp
    · rintro σ H3 ⟨x4, rfl, s3, no⟩
      refine fin H3 _ (s12.trans s3) ?_
      have e : lineN ats T = none := find_no fun j p hjp => no j p (by
        have := (List.getElem?_eq_some_iff.mp hjp).1
        rw [tlen]
        rw [← PS, List.length_map] at this
        exact this) hjp
      rw [e]
      exact rfl
end
end Cut
set_option Elab.async false
set_option linter.all false
set_option maxRecDepth 100000
set_option maxHeartbeats 8000000
namespace Cut
open PySem PySem.Spec PyProof.Rows L2
/-! ### triads, as the program finds them -/
def TrAt (K : PySem.W.Frag) (H : Hp) (ats : List Atm) (v : V) (t : Nat × Nat × Nat) : Prop := ∃ a, v = .ref a ∧ SqT K H a [.str (tabAt ats t.1), .str (tabAt ats t.2.1), .str (tabAt ats t.2.2)]
theorem TrAt.same {K : PySem.W.Frag} {H H' : Hp} {ats : List Atm} {v : V} {t : Nat × Nat × Nat} (x : TrAt K H ats v t) (e : Same H H') : TrAt K H' ats v t := let ⟨a, h1, h2⟩ := x; ⟨a, h1, seqT e h2⟩
/-- where each chain begins, where it ends, and which it leads past -/
def turnsN (t : Nat × Nat × Nat) : List (Nat × Nat × Nat) := [(t.1, t.2.1, t.2.2), (t.1, t.2.2, t.2.1), (t.2.1, t.2.2, t.1)]
theorem tri_turns (ats : List Atm) (t : Nat × Nat × Nat) : ((turnsN t).map fun u => cwB ats u.2.2 u.1 u.2.1).all id = triB ats t := by
  unfold turnsN triB
  simp
abbrev NTu : List Str := ["triad", "one", "two", "three"]
theorem scTurns : FnScope NTu ["triad"] (defScope sTurns) := ⟨rfl, rfl, rfl, by decide +kernel, rfl, by decide +kernel, by decide +kernel⟩
abbrev NIt : List Str := ["reached", "triad", "start", "end", "past"]
theorem scIsTriad : FnScope NIt ["reached", "triad"] (defScope sIsTriad) := ⟨rfl, rfl, rfl, by decide +kernel, rfl, by decide +kernel, by decide +kernel⟩
section
variable {P : Program} {w : World} {K : PySem.W.Frag} {mg : Str → Option Value} {base : Heap}
def spTurns (K : PySem.W.Frag) : Sp := fun vs H Q _ => ∃ (t : Addr) (ats : List Atm) (x : Nat × Nat × Nat), vs = [.ref t] ∧ TrAt K H ats (.ref t) x ∧
  ∀ (H' : Hp) (l : Addr) (us : List V), Same H H' → H l = none → H' l = some (.lst us) → Paired (TrAt K H' ats) us (turnsN x) → Q (.ref l) H'
theorem ok_turns {f : Addr} {fd : FuncData} (F : Fun K "_turns" "_turns" sTurns f fd) : FnOk P w K mg base CX0 1 f fd ["triad"] (spTurns K) := by
  refine F.ok scTurns (fun vs H Q E h => ?_) (fun cdv A outer s H vs Q E hr h => ?_)
  · obtain ⟨t, ats, x, rfl, _⟩ := h
    rfl
  · obtain ⟨t, ats, x, rfl, ht, fin⟩ := h
    have nd := scTurns.nd
    obtain ⟨t', et, ht⟩ := ht
    cases et
    refine ⟨_, pss_cons (ps_asg (pv 0) (pg_tup (by rfl) (pgs_cons (pg_name (i := 1) nd rfl (.inl rfl)) (pgs_cons (pg_name (i := 2) nd rfl (.inl rfl)) (pgs_cons (pg_name (i := 3) nd rfl (.inl rfl)) pgs_nil)))))
      (pss_one (ps_ret (pe_lst (pa_cons (pe_tup (pa_cons (pv 1) (pa_cons (pv 2) (pa_cons (pv 3) pa_nil)))) (pa_cons (pe_tup (pa_cons (pv 1) (pa_cons (pv 3) (pa_cons (pv 2) pa_nil)))) (pa_cons (pe_tup (pa_cons (pv 2) (pa_cons (pv 3) (pa_cons (pv 1) pa_nil)))) pa_nil)))))), ?_⟩
    have ln : ∀ n : Nat, n ≤ 1000 → n ≤ sizeLine := fun n h => Nat.le_of_lt (small1000 h)
    refine ⟨_, rfl, t, [.str (tabAt ats x.1), .str (tabAt ats x.2.1), .str (tabAt ats x.2.2)], rfl, ht, rfl, .str (tabAt ats x.1), [.str (tabAt ats x.2.1), .str (tabAt ats x.2.2)], rfl, .str (tabAt ats x.2.1), [.str (tabAt ats x.2.2)], rfl, .str (tabAt ats x.2.2), [], rfl, rfl, ?_⟩
    refine ⟨_, rfl, _, rfl, _, rfl, ln 3 (by decide), fun a1 n1 => ⟨_, rfl, _, rfl, _, rfl, ln 3 (by decide), fun a2 n2 => ⟨_, rfl, _, rfl, _, rfl, ln 3 (by decide), fun a3 n3 => ⟨ln 3 (by decide), fun l nl => ?_⟩⟩⟩⟩
    have e1 := same_new (o := .tup [.str (tabAt ats x.1), .str (tabAt ats x.2.1), .str (tabAt ats x.2.2)]) n1
    have e2 := same_new (o := .tup [.str (tabAt ats x.1), .str (tabAt ats x.2.2), .str (tabAt ats x.2.1)]) n2
    have e3 := same_new (o := .tup [.str (tabAt ats x.2.1), .str (tabAt ats x.2.2), .str (tabAt ats x.1)]) n3
    have e4 := same_new (o := .lst [.ref a1, .ref a2, .ref a3]) nl
    refine fin _ l [.ref a1, .ref a2, .ref a3] (e1.trans (e2.trans (e3.trans e4))) (e1.free (e2.free (e3.free nl))) upd_same (.cons ⟨a1, rfl, SqT.of (e4 _ _ (e3 _ _ (e2 _ _ upd_same)))⟩ (.cons ⟨a2, rfl, SqT.of (e4 _ _ (e3 _ _ upd_same))⟩ (.cons ⟨a3, rfl, SqT.of (e4 _ _ upd_same)⟩ .nil)))
def spIsTriad (K : PySem.W.Frag) : Sp := fun vs H Q _ => ∃ (R t : Addr) (ats : List Atm) (T : List Nat) (x : Nat × Nat × Nat), vs = [.ref R, .ref t] ∧ RchAt H R ats T ∧ (ats.map (·.1)).Nodup ∧ T.Nodup ∧ (∀ k ∈ T, k < ats.length) ∧ TrAt K H ats (.ref t) x ∧ x.1 ∈ T ∧ x.2.1 ∈ T ∧ x.2.2 ∈ T ∧
  ∀ (H' : Hp), Same H H' → Q (.bl (triB ats x)) H'
theorem turns_in {T : List Nat} {x : Nat × Nat × Nat} (h1 : x.1 ∈ T) (h2 : x.2.1 ∈ T) (h3 : x.2.2 ∈ T) : ∀ u ∈ turnsN x, u.1 ∈ T ∧ u.2.1 ∈ T ∧ u.2.2 ∈ T := fun u hu => by
  unfold turnsN at hu
  simp only [List.mem_cons, List.not_mem_nil, or_false] at hu
  rcases hu with rfl | rfl | rfl
  · exact ⟨h1, h2, h3⟩
  · exact ⟨h1, h3, h2⟩
  · exact ⟨h2, h3, h1⟩
theorem ok_isTriad {f fU : Addr} {fd fdU : FuncData} (F : Fun K "_is_triad" "_is_triad" sIsTriad f fd) (mAll : mg "all" = none)
    (FU : Fun K "_turns" "_turns" sTurns fU fdU) (bU : Binds K fdU ["triad"] []) (gU : mg "_turns" = some (.ref fU)) (GU : FnOk P w K mg base CX0 1 fU fdU ["triad"] (spTurns K)) : FnOk P w K mg base CX0 2 f fd ["reached", "triad"] (spIsTriad K) := by
  refine F.ok scIsTriad (fun vs H Q E h => ?_) (fun cdv A outer s H vs Q E hr h => ?_)
  · obtain ⟨R, t, ats, T, x, rfl, _⟩ := h
    rfl
  · obtain ⟨R, t, ats, T, x, rfl, rch, dist, ndT, ltT, ht, m1, m2, m3, fin⟩ := h
    have nd := scIsTriad.nd
    have hu := hu_of hr
    refine ⟨_, pss_one (ps_ret (pe_callB (id := "all") (r := rAll K) (cr_all (by rfl)) (by rfl) mAll (by decide +kernel) (pa_cons
      (pe_lc (own := [("start", 2), ("end", 3), ("past", 4)]) (g := gTup K 3 (gCons (gName 2) (gCons (gName 3) (gCons (gName 4) gNil)))) (tt := tYes) (te := tDIn (tVar 3) (tDGet (tDGet (tVar 0) (tVar 4)) (tVar 2))) (by rfl) nd
        (pi_list (pe_call GU hr (by rfl) gU FU.kp bU .nil pass0 (pa_cons (pv 1) pa_nil))) (blkOk_by (own := [("start", 2), ("end", 3), ("past", 4)]) (N := NIt) (sc := defScope sIsTriad) (by decide +kernel))
        (fun _ _ _ _ _ => pg_tup (by rfl) (pgs_cons (pg_name (i := 2) nd rfl (.inl rfl)) (pgs_cons (pg_name (i := 3) nd rfl (.inl rfl)) (pgs_cons (pg_name (i := 4) nd rfl (.inl rfl)) pgs_nil)))) (fun _ _ _ _ _ => pts_nil)
        (fun _ _ _ _ _ => pe_cmp (pc_din hu (pv 3) (pe_dget hu (pe_dget hu (pv 0) (pv 4) (fun _ _ => rfl)) (pv 2) (fun _ _ => rfl))))) pa_nil))), ?_⟩
    refine ⟨_, rfl, t, ats, x, rfl, ht, fun H1 l us s1 nl hl hus => ?_⟩
    have lu := paired_len hus
    have lu3 : us.length = 3 := lu
    refine ⟨l, rfl, ⟨_, SqL.of hl⟩, fun D nD => ?_⟩
    refine walk_list (xs := us) (fun i H7 => Same H1 H7 ∧ H7 D = some (.lst ((((turnsN x).take i).map fun u => cwB ats u.2.2 u.1 u.2.1).map V.bl))) ⟨same_new nD, upd_same⟩ (fun i H7 _ h => SqL.of (h.1 _ _ hl)) ?_ ?_
    · rintro i v H7 hv ⟨sm, hD⟩
      obtain ⟨u, hu7, a, rfl, ha⟩ := paired_get hus hv
      have li := (List.getElem?_eq_some_iff.mp hu7).1
      obtain ⟨q1, q2, q3⟩ := turns_in m1 m2 m3 u (List.mem_of_getElem? hu7)
      obtain ⟨r, b, L, d1, d2, ah⟩ := (rch.same (s1.trans sm)).get dist ltT ndT q3 q1
      obtain ⟨oo, d3, e3⟩ := ah.has dist (ltT _ q2)
      refine ⟨a, [.str (tabAt ats u.1), .str (tabAt ats u.2.1), .str (tabAt ats u.2.2)], rfl, seqT sm ha, rfl, .str (tabAt ats u.1), [.str (tabAt ats u.2.1), .str (tabAt ats u.2.2)], rfl, .str (tabAt ats u.2.1), [.str (tabAt ats u.2.2)], rfl, .str (tabAt ats u.2.2), [], rfl, rfl, rfl, ?_⟩
      refine tyes ?_
      refine ⟨_, rfl, _, rfl, _, rfl, R, _, rfl, d1, _, rfl, r, _, rfl, d2, b, oo, rfl, d3, _, hD, ?_, fun b' o e => ?_, ?_⟩
      · rw [List.length_map, List.length_map, List.length_take]
        have : (turnsN x).length = 3 := rfl
        exact small1000 (by omega)
      · rw [upd_ne (ne_of_none e nD)]
        exact sm _ _ e
      · rw [upd_same, List.take_add_one, hu7, e3, List.map_append, List.map_append]
        rfl
    · rintro H7 ⟨sm, hD⟩
      rw [lu, List.take_length] at hD
      refine ⟨D, _, rfl, SqL.of hD, ?_⟩
      rw [tri_turns]
      exact fin H7 (s1.trans sm)
end
end Cut
set_option Elab.async false
set_option linter.all false
set_option maxRecDepth 100000
set_option maxHeartbeats 8000000
namespace Cut
open PySem PySem.Spec PyProof.Rows L2
/-! ### chains -/
def stepsOk (ats : List Atm) (W : List Str) : List Nat → Prop
  | a :: b :: r => TW ats W a b ∧ stepsOk ats W (b :: r)
  | _ => True
/-- a chain from the first to the second one past the third one -/
structure ChOk (ats : List Atm) (u : Nat × Nat × Nat) (C : List Nat) : Prop where
  first : C.head? = some u.1
  last : C.getLast? = some u.2.1
  steps : stepsOk ats (namesAt ats u.2.2) C
  lt : ∀ k ∈ C, k < ats.length
  few : C.length ≤ 6
def ChAt (K : PySem.W.Frag) (H : Hp) (ats : List Atm) (v : V) (u : Nat × Nat × Nat) : Prop := ∃ a C, v = .ref a ∧ SqT K H a (tabsV ats C) ∧ ChOk ats u C
theorem ChAt.same {K : PySem.W.Frag} {H H' : Hp} {ats : List Atm} {v : V} {t : Nat × Nat × Nat} (x : ChAt K H ats v t) (e : Same H H') : ChAt K H' ats v t := let ⟨a, C, h1, h2, h3⟩ := x; ⟨a, C, h1, seqT e h2, h3⟩
abbrev NCh : List Str := ["ahead", "end", "chain"]
theorem scChain : FnScope NCh ["ahead", "end"] (defScope sChain) := ⟨rfl, rfl, rfl, by decide +kernel, rfl, by decide +kernel, by decide +kernel⟩
section
variable {P : Program} {w : World} {K : PySem.W.Frag} {mg : Str → Option Value} {base : Heap}
def spChain (K : PySem.W.Frag) : Sp := fun vs H Q _ => ∃ (a : Addr) (ats : List Atm) (u : Nat × Nat × Nat) (L : List (Nat × Option Nat)), vs = [.ref a, .str (tabAt ats u.2.1)] ∧ AhAt H a ats (namesAt ats u.2.2) u.1 L ∧ Few ats ∧ (ats.map (·.1)).Nodup ∧ u.2.1 ∈ L.map (·.1) ∧
  ∀ (H' : Hp) (v : V), Same H H' → (∃ r, v = .ref r ∧ H r = none) → ChAt K H' ats v u → Q v H'
theorem ok_chain {f : Addr} {fd : FuncData} (F : Fun K "_chain" "_chain" sChain f fd) (B : Blt mg) : FnOk P w K mg base CX0 1 f fd ["ahead", "end"] (spChain K) := by
  refine F.ok scChain (fun vs H Q E h => ?_) (fun cdv A outer s H vs Q E hr h => ?_)
  · obtain ⟨a, ats, u, L, rfl, _⟩ := h
    rfl
  · obtain ⟨a, ats, u, L, rfl, ah, few, dist, hin, fin⟩ := h
    have nd := scChain.nd
    have hu := hu_of hr
    have fm := few.many
    have fl := ah.inv.few
    have ln : ∀ n : Nat, n ≤ 1000 → n ≤ sizeLine := fun n h => Nat.le_of_lt (small1000 h)
    refine ⟨_, pss_cons (ps_set (i := 2) nd rfl (.inl rfl) (pe_lst (pa_cons (pv 1) pa_nil)))
      (pss_cons (ps_while PassesOwn.never (pt_cmp (pc_notN (pe_dget hu (pv 0) (pe_ix ix_list (pv 2) (pe_un un_neg pe_int) (fun _ _ => rfl)) (fun _ _ => rfl))))
        (pss_one (ps_expr (pe_bm PySem.F.plainAttrs_list PySem.F.slot_list_append PySem.F.type_list_append mt_append (pv 2) (pa_cons (pe_dget hu (pv 0) (pe_ix ix_list (pv 2) (pe_un un_neg pe_int) (fun _ _ => rfl)) (fun _ _ => rfl)) pa_nil)))))
      (pss_one (ps_ret (pe_tupleOf (by rfl) B.tuple (pe_revL (pv 2)))))), ?_⟩
    refine ⟨_, rfl, ln 1 (by decide), fun c nc => ?_⟩
    have s0 : Same H (upd H c (.lst [.str (tabAt ats u.2.1)])) := same_new nc
    have hc0 : upd H c (.lst [.str (tabAt ats u.2.1)]) c = some (.lst (tabsV ats [u.2.1])) := upd_same
    generalize upd H c (.lst [.str (tabAt ats u.2.1)]) = H0 at s0 hc0 ⊢
    obtain ⟨en, hen, een⟩ := List.mem_map.mp hin
    obtain ⟨q0, hq0, eq0⟩ := List.getElem_of_mem hen
    have hLq : L[q0]? = some en := by rw [List.getElem?_eq_getElem hq0, eq0]
    have lt1 : u.2.1 < ats.length := by rw [← een]; exact ah.inv.lt en hen
    refine ⟨fun m σ H1 => ∃ (C' : List Nat) (e : Nat × Option Nat), σ = [some (.ref a), some (.str (tabAt ats u.2.1)), some (.ref c)] ∧ Same H H1 ∧ H1 c = some (.lst (tabsV ats (e.1 :: C').reverse)) ∧ L[m]? = some e ∧ (e.1 :: C').getLast? = some u.2.1 ∧ stepsOk ats (namesAt ats u.2.2) (e.1 :: C') ∧ (∀ k ∈ e.1 :: C', k < ats.length) ∧ C'.length + m < L.length,
      ⟨q0, [], en, rfl, s0, by rw [een]; exact hc0, hLq, by rw [een]; rfl, trivial, fun k hk => by rw [List.mem_singleton.mp hk, een]; exact lt1, by simpa using hq0⟩, fun m σ H1 hW => ?_⟩
    obtain ⟨C', e, rfl, s1, hc, hm, hlast, hsteps, hlt, hlen⟩ := hW
    have rv : tabsV ats (e.1 :: C').reverse = tabsV ats C'.reverse ++ [.str (tabAt ats e.1)] := by rw [List.reverse_cons, tabs_snoc]
    have ah1 := ah.same s1
    have le := ah.inv.lt e (List.mem_of_getElem? hm)
    have dg : DGet H1 a (.str (tabAt ats e.1)) (some (parV ats e.2)) := by
      have g := DGet.k (k := .inr (tabAt ats e.1)) ah1.at_
      rw [(ah_val dist le (L := L) ah.inv.lt).2 e.2 ah.inv.nd (List.mem_of_getElem? hm)] at g
      exact g
    have hat : atI (tabsV ats (e.1 :: C').reverse) (-1) = some (.str (tabAt ats e.1)) := by rw [rv]; exact atI_last _ _
    refine ⟨_, rfl, _, rfl, 1, rfl, c, _, -1, _, rfl, rfl, SqL.of hc, hat, a, _, rfl, dg, _, rfl, ?_⟩
    by_cases m0 : m = 0
    · have e2 : e = (u.1, none) := by
        rw [m0, ah.inv.head] at hm
        exact (Option.some.inj hm).symm
      rw [e2]
      refine iteF ⟨_, rfl, c, _, rfl, SqL.of hc, fun l2 n2 => .inl ⟨l2, _, rfl, SqL.of upd_same, fun r nr => ?_⟩⟩
      have s2 := s1.trans ((same_new (o := .lst (tabsV ats (e.1 :: C').reverse).reverse) n2).trans (same_new (o := .tup (tabsV ats (e.1 :: C').reverse).reverse) nr))
      have rr : (tabsV ats (e.1 :: C').reverse).reverse = tabsV ats (e.1 :: C') := by
        unfold tabsV
        rw [← List.map_reverse, List.reverse_reverse]
      refine fin _ _ s2 ⟨r, rfl, s1.free ((same_new (o := .lst (tabsV ats (e.1 :: C').reverse).reverse) n2).free nr)⟩ ⟨r, e.1 :: C', rfl, by rw [← rr]; exact SqT.of upd_same, ⟨by rw [e2]; rfl, hlast, hsteps, hlt, ?_⟩⟩
      rw [List.length_cons]
      omega
    · obtain ⟨r, ce, hr1, hr2, hr3, hr4⟩ := ah.inv.par m e hm m0
      have pv_ : parV ats e.2 = .str (tabAt ats ce.1) := by rw [hr3]; rfl
      rw [pv_] at dg ⊢
      refine iteT ⟨fun σ' H' => ∃ (C' : List Nat) (e : Nat × Option Nat), σ' = [some (.ref a), some (.str (tabAt ats u.2.1)), some (.ref c)] ∧ Same H H' ∧ H' c = some (.lst (tabsV ats (e.1 :: C').reverse)) ∧ L[r]? = some e ∧ (e.1 :: C').getLast? = some u.2.1 ∧ stepsOk ats (namesAt ats u.2.2) (e.1 :: C') ∧ (∀ k ∈ e.1 :: C', k < ats.length) ∧ C'.length + r < L.length, fun σ' H' hN => ⟨r, hr1, hN⟩, ?_⟩
      refine ⟨_, rfl, .inl ⟨rfl, _, SqL.of hc⟩, _, rfl, _, rfl, 1, rfl, c, _, -1, _, rfl, rfl, SqL.of hc, hat, a, _, rfl, dg, c, _, _, rfl, rfl, hc, ?_, e.1 :: C', ce, rfl, ?_, ?_, hr2, ?_, ⟨hr4, hsteps⟩, ?_, ?_⟩
      · unfold tabsV
        rw [List.length_map, List.length_reverse, List.length_cons]
        exact small1000 (by omega)
      · exact fun b o eo => by rw [upd_ne (ne_of_none eo nc)]; exact s1 _ _ eo
      · rw [upd_same, List.reverse_cons (a := ce.1), tabs_snoc]
      · rw [List.getLast?_cons_cons]
        exact hlast
      · intro k hk
        rcases List.mem_cons.mp hk with rfl | hk
        · exact ah.inv.lt ce (List.mem_of_getElem? hr2)
        · exact hlt k hk
      · rw [List.length_cons]
        omega
end
end Cut
set_option Elab.async false
set_option linter.all false
set_option maxRecDepth 100000
set_option maxHeartbeats 8000000
namespace Cut
open PySem PySem.Spec PyProof.Rows L2
theorem comb2_map (f : Nat → Nat) : ∀ l : List Nat, comb2 (l.map f) = (comb2 l).map fun t => (f t.1, f t.2)
  | [] => rfl
  | x :: r => by
    rw [List.map_cons]
    unfold comb2
    rw [comb2_map f r, List.map_append, List.map_map, List.map_map]
    rfl
theorem comb3_map (f : Nat → Nat) : ∀ l : List Nat, comb3 (l.map f) = (comb3 l).map fun t => (f t.1, f t.2.1, f t.2.2)
  | [] => rfl
  | x :: r => by
    rw [List.map_cons]
    unfold comb3
    rw [comb3_map f r, comb2_map f r, List.map_append, List.map_map, List.map_map]
    rfl
theorem range_getD (T : List Nat) : (List.range T.length).map (T.getD · 0) = T := by
  refine List.ext_getElem (by simp) fun i h1 h2 => ?_
  rw [List.getElem_map, List.getElem_range, List.getD_eq_getElem?_getD, List.getElem?_eq_getElem h2]
  rfl
def TdAt (K : PySem.W.Frag) (H : Hp) (ats : List Atm) (v : V) : Option (Nat × Nat × Nat) → Prop
  | none => v = .non
  | some x => ∃ a t c cs, v = .ref a ∧ SqT K H a [.ref t, .ref c] ∧ TrAt K H ats (.ref t) x ∧ SqT K H c cs ∧ Paired (ChAt K H ats) cs (turnsN x)
theorem TdAt.same {K : PySem.W.Frag} {H H' : Hp} {ats : List Atm} {v : V} : ∀ {x : Option (Nat × Nat × Nat)}, TdAt K H ats v x → Same H H' → TdAt K H' ats v x
  | none, x, _ => x
  | some _, x, e => let ⟨a, t, c, cs, h1, h2, h3, h4, h5⟩ := x; ⟨a, t, c, cs, h1, seqT e h2, h3.same e, seqT e h4, paired_mono (fun _ _ y => y.same e) h5⟩
abbrev NTo : List Str := ["question", "tables", "reached", "inside", "triad", "start", "end", "past"]
theorem scTriadOf : FnScope NTo ["question", "tables"] (defScope sTriadOf) := ⟨rfl, rfl, rfl, by decide +kernel, rfl, by decide +kernel, by decide +kernel⟩
section
variable {P : Program} {w : World} {K : PySem.W.Frag} {mg : Str → Option Value} {base : Heap}
def spTriadOf (K : PySem.W.Frag) : Sp := fun vs H Q _ => ∃ (q tl : Addr) (ats : List Atm) (T : List Nat), vs = [.ref q, .ref tl] ∧ QTb K H q tl ats T ∧
  ∀ (H' : Hp) (v : V), Same H H' → TdAt K H' ats v (triN ats T) → Q v H'
theorem ok_triadOf {f fR fI fL fU fC : Addr} {fd fdR fdI fdL fdU fdC : FuncData} (F : Fun K "triad_of" "triad_of" sTriadOf f fd) (B : Blt mg) (mC : mg "combinations" = some (.type cT))
    (FR : Fun K "_reached" "_reached" sReachedAll fR fdR) (bR : Binds K fdR ["question", "tables"] []) (gR : mg "_reached" = some (.ref fR)) (GR : FnOk P w K mg base CX0 3 fR fdR ["question", "tables"] (spReachA K))
    (FI : Fun K "_in_order" "_in_order" sInOrder fI fdI) (bI : Binds K fdI ["question", "tables"] []) (gI : mg "_in_order" = some (.ref fI)) (GI : FnOk P w K mg base CX0 1 fI fdI ["question", "tables"] (spInOrder K))
    (FL : Fun K "_is_triad" "_is_triad" sIsTriad fL fdL) (bL : Binds K fdL ["reached", "triad"] []) (gL : mg "_is_triad" = some (.ref fL)) (GL : FnOk P w K mg base CX0 2 fL fdL ["reached", "triad"] (spIsTriad K))
    (FU : Fun K "_turns" "_turns" sTurns fU fdU) (bU : Binds K fdU ["triad"] []) (gU : mg "_turns" = some (.ref fU)) (GU : FnOk P w K mg base CX0 1 fU fdU ["triad"] (spTurns K))
    (FC : Fun K "_chain" "_chain" sChain fC fdC) (bC : Binds K fdC ["ahead", "end"] []) (gC : mg "_chain" = some (.ref fC)) (GC : FnOk P w K mg base CX0 1 fC fdC ["ahead", "end"] (spChain K)) :
    FnOk P w K mg base CX0 4 f fd ["question", "tables"] (spTriadOf K) := by
  refine F.ok scTriadOf (fun vs H Q E h => ?_) (fun cdv A outer s H vs Q E hr h => ?_)
  · obtain ⟨q, tl, ats, T, rfl, _⟩ := h
    rfl
  · obtain ⟨q, tl, ats, T, rfl, x, fin⟩ := h
    have nd := scTriadOf.nd
    have hu := hu_of hr
    have hr1 : Room 1 _ := hr.mono (by decide)
    have hr2 : Room 2 _ := hr.mono (by decide)
    have ln : ∀ n : Nat, n ≤ 1000 → n ≤ sizeLine := fun n h => Nat.le_of_lt (small1000 h)
    refine ⟨_, pss_cons (ps_set (i := 2) nd rfl (.inr rfl) (pe_call GR hr (by rfl) gR FR.kp bR .nil pass0 (pa_cons (pv 0) (pa_cons (pv 1) pa_nil))))
      (pss_cons (ps_set (i := 3) nd rfl (.inl rfl) (pe_call GI hr1 (by rfl) gI FI.kp bI .nil pass0 (pa_cons (pv 0) (pa_cons (pv 1) pa_nil))))
      (pss_cons (ps_for PassesOwn.never rfl (pi_combs (by rfl) mC (pa_cons (pv 3) (pa_cons pe_int pa_nil))) (pg_name (i := 4) nd rfl (.inl rfl))
        (pss_one (ps_if (pt_val (pe_call GL hr2 (by rfl) gL FL.kp bL .nil pass0 (pa_cons (pv 2) (pa_cons (pv 4) pa_nil))))
          (pss_one (ps_ret (pe_tup (pa_cons (pv 4) (pa_cons (pe_tupleOf (by rfl) B.tuple (pe_lc (own := [("start", 5), ("end", 6), ("past", 7)]) (g := gTup K 3 (gCons (gName 5) (gCons (gName 6) (gCons (gName 7) gNil)))) (tt := tYes) (te := tCall (spChain K) [] E0 (tCons (tDGet (tDGet (tVar 2) (tVar 7)) (tVar 5)) (tCons (tVar 6) tNil))) (by rfl) nd
            (pi_list (pe_call GU hr1 (by rfl) gU FU.kp bU .nil pass0 (pa_cons (pv 4) pa_nil))) (blkOk_by (own := [("start", 5), ("end", 6), ("past", 7)]) (N := NTo) (sc := defScope sTriadOf) (by decide +kernel))
            (fun _ _ _ _ _ => pg_tup (by rfl) (pgs_cons (pg_name (i := 5) nd rfl (.inl rfl)) (pgs_cons (pg_name (i := 6) nd rfl (.inl rfl)) (pgs_cons (pg_name (i := 7) nd rfl (.inl rfl)) pgs_nil)))) (fun _ _ _ _ _ => pts_nil)
            (fun _ _ _ _ _ => pe_call GC hr1 (by rfl) gC FC.kp bC .nil pass0 (pa_cons (pe_dget hu (pe_dget hu (pv 2) (pv 7) (fun _ _ => rfl)) (pv 5) (fun _ _ => rfl)) (pa_cons (pv 6) pa_nil))))) pa_nil))))) pss_nil)))
      (pss_one (ps_ret pe_non)))), ?_⟩
    obtain ⟨head, hq⟩ := x.q
    refine ⟨_, rfl, _, rfl, q, tl, head, ats, T, rfl, hq, x.few, x.dist, x.tl, x.nd, x.lt, fun H1 R s1 nR rch => ?_⟩
    refine ⟨_, rfl, _, rfl, q, tl, ats, T, rfl, x.same s1, fun H2 l s2 nl hl => ?_⟩
    have s12 := s1.trans s2
    have tlen : (tabsV ats T).length = T.length := List.length_map ..
    have six := x.six
    have ndT := x.nd
    obtain ⟨o1, o2, o3, o4⟩ := choices_ok (n := T.length) six
    have PS : comb3 T = (comb3 (List.range T.length)).map fun t => (T.getD t.1 0, T.getD t.2.1 0, T.getD t.2.2 0) := by
      rw [← comb3_map (T.getD · 0), range_getD]
    refine ⟨_, rfl, l, _, rfl, SqL.of hl, by rw [tlen]; exact six, ?_⟩
    refine for_comb (xs := tabsV ats T) (fun i σ H' => ∃ x4 : Option V, σ = [some (.ref q), some (.ref tl), some (.ref R), some (.ref l), x4, none, none, none] ∧ Same H2 H' ∧ ∀ (j : Nat) (p : Nat × Nat × Nat), j < i → (comb3 T)[j]? = some p → triB ats p = false)
      ⟨none, rfl, Same.refl H2, fun j p hj => absurd hj (Nat.not_lt_zero j)⟩ ?_ ?_
    · rintro i so σ H3 Ta hso ⟨x4, rfl, s3, no⟩ nTa
      rw [tlen] at hso
      have hmem := List.mem_of_getElem? hso
      obtain ⟨l2, l3⟩ := o3 so hmem
      rw [o4, List.getElem?_map] at hso
      obtain ⟨tr, htr, rfl⟩ := Option.map_eq_some_iff.mp hso
      obtain ⟨pp, epp⟩ : ∃ pp, pp = (T.getD tr.1 0, T.getD tr.2.1 0, T.getD tr.2.2 0) := ⟨_, rfl⟩
      have hp : (comb3 T)[i]? = some pp := by rw [PS, List.getElem?_map, htr, epp]; rfl
      have sub := comb3_mem.mp (show (pp.1, pp.2.1, pp.2.2) ∈ comb3 T from List.mem_of_getElem? hp)
      have m1 : pp.1 ∈ T := sub.subset (by simp)
      have m2 : pp.2.1 ∈ T := sub.subset (by simp)
      have m3 : pp.2.2 ∈ T := sub.subset (by simp)
      rw [ord_tabs ats T (trip tr) l3]
      have eo : tabsV ats ((trip tr).map (T.getD · 0)) = [.str (tabAt ats pp.1), .str (tabAt ats pp.2.1), .str (tabAt ats pp.2.2)] := by rw [epp]; rfl
      rw [eo]
      have s4 := s3.trans (same_new (o := .tup [.str (tabAt ats pp.1), .str (tabAt ats pp.2.1), .str (tabAt ats pp.2.2)]) nTa)
      have hTa : upd H3 Ta (.tup [.str (tabAt ats pp.1), .str (tabAt ats pp.2.1), .str (tabAt ats pp.2.2)]) Ta = some (.tup [.str (tabAt ats pp.1), .str (tabAt ats pp.2.1), .str (tabAt ats pp.2.2)]) := upd_same
      generalize upd H3 Ta (.tup [.str (tabAt ats pp.1), .str (tabAt ats pp.2.1), .str (tabAt ats pp.2.2)]) = H4 at s4 hTa ⊢
      have tr4 : TrAt K H4 ats (.ref Ta) pp := ⟨Ta, rfl, SqT.of hTa⟩
      have rch4 := rch.same (s2.trans s4)
      refine ⟨_, rfl, _, rfl, R, Ta, ats, T, pp, rfl, rch4, x.dist, ndT, x.lt, tr4, m1, m2, m3, fun H5 s5 => ⟨_, rfl, ?_⟩⟩
      cases c : triB ats pp with
      | true =>
        refine iteT ?_
        have tri := c
        refine ⟨_, rfl, ?_⟩
        refine ⟨_, rfl, Ta, ats, pp, rfl, tr4.same s5, fun H6 ul us s6 nul hul hus => ?_⟩
        have lu := paired_len hus
        refine ⟨ul, rfl, ⟨_, SqL.of hul⟩, fun D nD => ?_⟩
        have rch6 := rch4.same (s5.trans s6)
        refine walk_list (xs := us) (fun k H7 => Same H6 H7 ∧ ∃ cs, H7 D = some (.lst cs) ∧ Paired (fun v u => ChAt K H7 ats v u ∧ ∃ r, v = .ref r ∧ H6 r = none ∧ r ≠ D) cs ((turnsN pp).take k)) ⟨same_new nD, [], upd_same, .nil⟩ (fun k H7 _ h => SqL.of (h.1 _ _ hul)) ?_ ?_
        · rintro k v H7 hv ⟨sm, cs, hD, hcs⟩
          obtain ⟨u, hu7, a, rfl, ha⟩ := paired_get hus hv
          have lcs := paired_len hcs
          obtain ⟨q1, q2, q3⟩ := turns_in m1 m2 m3 u (List.mem_of_getElem? hu7)
          obtain ⟨r, b, L, d1, d2, ah⟩ := (rch6.same sm).get x.dist x.lt ndT q3 q1
          have cw : CW ats (namesAt ats u.2.2) u.1 u.2.1 := by
            rw [← tri_turns] at tri
            exact cwB_iff.mp (List.all_eq_true.mp tri _ (List.mem_map.mpr ⟨u, List.mem_of_getElem? hu7, rfl⟩))
          refine ⟨a, [.str (tabAt ats u.1), .str (tabAt ats u.2.1), .str (tabAt ats u.2.2)], rfl, seqT sm ha, rfl, .str (tabAt ats u.1), [.str (tabAt ats u.2.1), .str (tabAt ats u.2.2)], rfl, .str (tabAt ats u.2.1), [.str (tabAt ats u.2.2)], rfl, .str (tabAt ats u.2.2), [], rfl, rfl, rfl, ?_⟩
          refine tyes ?_
          refine ⟨_, rfl, _, rfl, R, _, rfl, d1, _, rfl, r, _, rfl, d2, _, rfl, b, ats, u, L, rfl, ah, x.few, x.dist, (ah.inv.done (Nat.le_refl _) _).mpr cw, fun H8 v8 s8 hf ch => ?_⟩
          obtain ⟨r8, rfl, n8⟩ := hf
          have r8D : r8 ≠ D := (ne_of_none hD n8).symm
          refine ⟨cs, s8 _ _ hD, ?_, fun b' o e => ?_, cs ++ [.ref r8], upd_same, ?_⟩
          · rw [lcs, List.length_take]
            have : (turnsN pp).length = 3 := rfl
            exact small1000 (by omega)
          · rw [upd_ne (ne_of_none e nD)]
            exact s8 _ _ (sm _ _ e)
          · rw [List.take_add_one, hu7]
            have put : ∀ {v u} {r : Addr}, ChAt K H8 ats v u → v = .ref r → r ≠ D → ChAt K (upd H8 D (.lst (cs ++ [.ref r8]))) ats v u := fun {v u r} h e n => by
              obtain ⟨a, C, h1, h2, h3⟩ := h
              rw [e] at h1
              cases h1
              refine ⟨r, C, e, ?_, h3⟩
              rcases h2 with (h | ⟨o, h⟩) | h
              · exact .inl (.inl (by rw [upd_ne n]; exact h))
              · exact .inl (.inr ⟨o, by rw [upd_ne n]; exact h⟩)
              · exact .inr h
            refine Paired.snoc (paired_mono (fun v u y => ?_) hcs) ⟨put ch rfl r8D, r8, rfl, sm.free n8, r8D⟩
            obtain ⟨y1, r, y2, y3, y4⟩ := y
            exact ⟨put (y1.same s8) y2 y4, r, y2, y3, y4⟩
        · rintro H7 ⟨sm, cs, hD, hcs⟩
          rw [lu, List.take_length] at hcs
          refine .inl ⟨D, cs, rfl, SqL.of hD, fun r nr => ⟨ln 2 (by decide), fun z nz => ?_⟩⟩
          have e1 := same_new (o := .tup cs) nr
          have e2 := same_new (o := .tup [.ref Ta, .ref r]) nz
          have s67 := sm.trans (e1.trans e2)
          refine fin _ _ (s12.trans (s4.trans (s5.trans (s6.trans s67)))) ?_
          have e : triN ats T = some pp := find_at hp c no
          rw [e]
          exact ⟨z, Ta, r, cs, rfl, SqT.of upd_same, tr4.same (s5.trans (s6.trans s67)), SqT.of (e2 _ _ upd_same), paired_mono (fun _ _ y => y.1.same (e1.trans e2)) hcs⟩
      | false =>
        refine iteF ⟨_, rfl, s4.trans s5, fun j p hj hjp => ?_⟩
        by_cases cj : j = i
        · rw [cj, hp] at hjp
          cases hjp
          exact c
        · exact no j p (by omega) hjp
    · rintro σ H3 ⟨x4, rfl, s3, no⟩
      refine fin H3 _ (s12.trans s3) ?_
      have e : triN ats T = none := find_no fun j p hjp => no j p (by
        have := (List.getElem?_eq_some_iff.mp hjp).1
        rw [tlen, o4, List.length_map]
        rw [PS, List.length_map] at this
        exact this) hjp
      rw [e]
      exact rfl
end
end Cut
set_option Elab.async false
set_option linter.all false
set_option maxRecDepth 100000
set_option maxHeartbeats 8000000
namespace Cut
open PySem PySem.Spec PyProof.Rows L2
/-! ### whether a table parts two others, as the law looks at it -/
abbrev NDp : List Str := ["own", "one", "middle", "other"]
theorem scDoesPart : FnScope NDp ["own", "one", "middle", "other"] (defScope sDoesPart) := ⟨rfl, rfl, rfl, by decide +kernel, rfl, by decide +kernel, by decide +kernel⟩
theorem lock_facts {K : PySem.W.Frag} {H : Hp} {d : Addr} {o : Obj} {kvs : List (Key × V)} {ats : List Atm} (hd : H d = some (.dK kvs)) (pk : Paired (OwnKv K H) kvs ats) : OwnF K (upd H d (.frz o (.dK kvs))) d o kvs ats :=
  ⟨upd_same, paired_mono (fun kv t y => by
      obtain ⟨y1, l, y2, y3⟩ := y
      exact ⟨y1, l, y2, seqL_off y3 hd⟩) pk⟩
section
variable {P : Program} {w : World} {K : PySem.W.Frag} {mg : Str → Option Value} {base : Heap}
def spDoesPart (K : PySem.W.Frag) : Sp := fun vs H Q _ => ∃ (d : Addr) (ats : List Atm) (a p b : Nat), vs = [.ref d, .str (tabAt ats a), .str (tabAt ats p), .str (tabAt ats b)] ∧ OwnAt K H d ats ∧ Few ats ∧ (ats.map (·.1)).Nodup ∧ TxOk ats ∧ a < ats.length ∧ p < ats.length ∧ b < ats.length ∧
  ∀ H', Same H H' → Q (.bl (!cwB ats p a b)) H'
theorem ok_doesPart {f fR : Addr} {fd fdR : FuncData} (F : Fun K "_law_does_part" "_law_does_part" sDoesPart f fd)
    (FR : Fun K "_law_reached" "_law_reached" sReached fR fdR) (bR : Binds K fdR ["own", "start", "without"] []) (gR : mg "_law_reached" = some (.ref fR)) (GR : FnOk P w K mg base CX0 1 fR fdR ["own", "start", "without"] (spReachedW K)) :
    FnOk P w K mg base CX0 2 f fd ["own", "one", "middle", "other"] (spDoesPart K) := by
  refine F.ok scDoesPart (fun vs H Q E h => ?_) (fun cdv A outer s H vs Q E hr h => ?_)
  · obtain ⟨d, ats, a, p, b, rfl, _⟩ := h
    rfl
  · obtain ⟨d, ats, a, p, b, rfl, own, few, dist, txok, ha, hp, hb, fin⟩ := h
    have nd := scDoesPart.nd
    have hu := hu_of hr
    refine ⟨_, pss_one (ps_lock (ps_ret (pe_cmpR op_notIn_seq (pv 3) (pe_call GR hr (by rfl) gR FR.kp bR .nil pass0 (pa_cons (pv 0) (pa_cons (pv 1) (pa_cons (pe_dget hu (pv 0) (pv 2) (fun _ _ => rfl)) pa_nil)))) (by rfl)))), ?_⟩
    obtain ⟨kvs, hd, pk⟩ := own
    refine ⟨d, .dK kvs, hd, trivial, fun od => ?_⟩
    have ownL := lock_facts (o := od) hd pk
    have unl : ∀ {H' : Hp}, Same (upd H d (.frz od (.dK kvs))) H' → Same H (upd H' d (.dK kvs)) := fun {H'} s => same_unlock hd s
    generalize upd H d (.frz od (.dK kvs)) = HL at ownL unl ⊢
    obtain ⟨lp, dgp, sqp⟩ := ownL.get dist hp
    refine ⟨_, rfl, _, rfl, _, rfl, _, rfl, _, rfl, d, _, rfl, dgp, d, lp, od, kvs, ats, a, namesAt ats p, rfl, ownL, sqp, ha, few, dist, txok, fun H' l F s1 nl hl mem ndF => ?_⟩
    have ltF : ∀ k ∈ F, k < ats.length := fun k hk => ((mem k).mp hk).lt.2
    refine ⟨l, _, rfl, .inl (SqL.of hl), rfl, flat_tabs ats F, ?_⟩
    rw [if_pos rfl, in_tabs dist hb ltF]
    have e : decide (b ∈ F) = cwB ats p a b := by
      cases c : cwB ats p a b with
      | true => exact decide_eq_true ((mem b).mpr (cwB_iff.mp c))
      | false => exact decide_eq_false fun z => cwB_false.mp c ((mem b).mp z)
    rw [e]
    exact ⟨s1 _ _ ownL.at_, fin _ (unl s1)⟩
end
end Cut
set_option Elab.async false
set_option linter.all false
set_option maxRecDepth 100000
set_option maxHeartbeats 4000000
namespace Cut
open PySem PySem.Spec PyProof.Rows L2
/-! ### enumerate(tuple) -/
def ItE (K : PySem.W.Frag) (a : Addr) : It :=
  ⟨fun i H => ∃ (xs : List V) (x : V), SqT K H a xs ∧ xs[i]? = some x, fun i H v H' => ∃ T x, v = .ref T ∧ H T = none ∧ H' = upd H T (.tup [.int (i : Nat), x]) ∧ ∀ xs, SqT K H a xs → xs[i]? = some x, fun i H => ∃ xs : List V, SqT K H a xs ∧ xs.length ≤ i⟩
theorem enumT_end {prog : Program} {w : World} {A : Around} {E : Value → Shared → Prop} {s : Shared} {e it l : Addr} {i : Nat} {c : Int} {items : Array Value} {old : Value} {Q : Option Value → Shared → Prop} (hh : A.handled = none)
    (he : IsEnum s.heap e it c old) (hit : s.heap.IsTupleIter it l i) (hl : s.heap.IsTuple l items) (hx : items[i]? = none)
    (hQ : ∀ h', Heap.ExtBut it s.heap h' → Q none { s with heap := h' }) : wpAny (model prog w) A (pyNext (.ref e)) Q E s := by
  have hTy : s.TypeIs (.ref e) "enumerate" := ⟨_, he, rfl⟩
  unfold pyNext
  refine wpAny_bind (wpAny_attempt (wpAny_callSpecial?_slot (name := PySem.Str.ofString "__next__") hTy F.slot_enumerate_next (wpAny_call_entry F.slot_enumerate_next hTy F.entry_enumerate_next ?_ (F.args_enumerate_next_1 _))))
  show wpAny _ _ (field (.ref e) 2 >>= _) _ _ _
  refine wpAny_bind (wpAny_field he rfl (x := .ref it) rfl ?_)
  refine wpAny_bind (wpAny_nextOf_tuple_end hh hit hl hx fun h' x e1 e2 => ?_)
  obtain ⟨o, ho, hc⟩ := e2
  refine wpAny_bind (wpAny_isInstance (T := "StopIteration") (b := true) ⟨o, ho, hc⟩ isSubtype_stop ?_)
  exact wpAny_pure (hQ _ e1)
theorem turn_enumT {P : Program} {w : World} {K : PySem.W.Frag} {elts : List Expr} {kk : Nat} {tpos : Pos} (a e it : Addr) :
    Turn P w K (.Tuple elts kk tpos) (ItE K a) [e, it] e (fun i h => (∃ old, IsEnum h e it ((i : Nat) : Int) old) ∧ h.IsTupleIter it a i ∧ e ≠ it ∧ a ≠ it ∧ e ≠ a) where
  mem := by simp
  obj := fun i h st b hb => by
    obtain ⟨⟨old, he⟩, ⟨o, ho, hc, hd⟩, _⟩ := st
    have e' : b = e ∨ b = it := by simpa using hb
    rcases e' with z | z
    · rw [z]; exact ⟨_, he, fun v q => nomatch q⟩
    · rw [z]; exact ⟨o, ho, fun v q => by rw [hd] at q; cases q⟩
  keep := fun i h h' st k => let ⟨⟨old, he⟩, hi, hne⟩ := st; ⟨⟨old, k e (by simp) _ he⟩, hi.at fun o q => k it (by simp) o q, hne⟩
  item := by
    intro X hP hw hK hc i pins s σ H E I hf st hg
    subst hP hw hK
    obtain ⟨⟨old, he⟩, hit, hne, hai, hea⟩ := st
    obtain ⟨xs, x, hq, hx⟩ := hg
    obtain ⟨its, rv, p, hz⟩ := I.tuple hq
    obtain ⟨u, hu, ru⟩ := rv.get hx
    have hel : e < s.heap.objs.size := Heap.lt_size he
    have hil : it < s.heap.objs.size := by obtain ⟨_, q, _⟩ := hit; exact Heap.lt_size q
    have hli : i < its.toArray.size := by
      rw [List.size_toArray]
      exact (List.getElem?_eq_some_iff.mp hu).1
    refine wpAny_pyNext_enum_itemD (Draws.tuple (A := X.A.in1) (I.ok.hd hc) it a hai its.toArray) he ⟨hit, p⟩ hli hne (by simp [hne, hea]) fun v h' tk hv ho hst' hT hsz hk => ?_
    have ev : v = u := by
      have hv : its.toArray[i]? = some v := hv
      rw [List.getElem?_toArray, hu] at hv
      exact (Option.some.inj hv).symm
    subst ev
    refine ⟨_, rfl, wpAny_letOwnedTupleGo_enum (s := { s with heap := h', toks := tk + 1 }) ho fun h'' he' sb => ?_⟩
    have hT2 : h''.get? s.heap.objs.size = some { cls := .type "tuple", data := .seq #[.int i tk, v] } := (sb.2 _ (Nat.ne_of_gt hel)).trans hT
    have new : ObjOk X.prog X.w (upd H s.heap.objs.size (.tup [.int (i : Nat), x])) h'' s.heap.objs.size (.tup [.int (i : Nat), x]) :=
      ⟨by show 2 ≤ sizeLine; decide, [.int i tk, v], .cons ⟨_, rfl⟩ (.cons ru .nil), ⟨_, hT2, rfl, _, rfl⟩⟩
    have I1 : Inv X pins σ (upd H s.heap.objs.size (.tup [.int (i : Nat), x])) { s with heap := h'', toks := tk + 1 } :=
      I.turnedNew (ch := [e, it]) (fun b ob hb q => (sb.2 b (fun z => hb (by simp [z]))).trans (hk b ob (fun z => hb (by simp [z])) (fun z => hb (by simp [z])) q)) hf (Nat.le_refl _) new
    refine ⟨.ref s.heap.objs.size, _, I1, rfl, ⟨_, x, rfl, I.hok.fresh (Nat.le_refl _), rfl, fun ys hy => ?_⟩, ⟨⟨v, ?_⟩, hst'.1.at fun o q => (sb.2 it (Ne.symm hne)).trans q, hne, hai, hea⟩, fun b hb => ?_⟩
    · rw [I.tuple_inj hy hq]; exact hx
    · have e1 : ((i + 1 : Nat) : Int) = (i : Int) + 1 := by omega
      rw [e1]; exact he'
    · have hb' : b < s.heap.objs.size := by
        have e' : b = e ∨ b = it := by simpa using hb
        rcases e' with z | z
        · rw [z]; exact hel
        · rw [z]; exact hil
      rw [upd_ne (Nat.ne_of_lt hb')]
      exact (hf b hb).1
  done := by
    intro X hP hw hK hc i pins s σ H E I hf st hg
    subst hP hw hK
    obtain ⟨⟨old, he⟩, hit, hne, _⟩ := st
    obtain ⟨xs, hq, hx⟩ := hg
    obtain ⟨its, rv, p, hz⟩ := I.tuple hq
    obtain ⟨f0, f1, f2, f3, f4, f5⟩ := hf it (by simp)
    have hl := rv.length
    exact enumT_end (I.ok.hd hc) he hit p (by rw [List.getElem?_toArray]; exact List.getElem?_eq_none (by omega)) fun h' eb => ⟨rfl, I.turned (t' := s.toks) (fun b o hb q => eb b o hb q) f0 f1 f3 f4 f5⟩
  self := fun A i s Q E st h => let ⟨⟨_, he⟩, _⟩ := st; wpAny_pyIter_enum he h
end Cut
set_option Elab.async false
set_option linter.all false
set_option maxRecDepth 100000
set_option maxHeartbeats 4000000
namespace Cut
open PySem PySem.Spec PyProof.Rows L2
set_option maxHeartbeats 4000000 in
theorem enumT_new (l : Addr) (items : Array Value) (n : Nat) (dct : Option Addr) (sl : Array (Option Value)) :
    Meets (Builtin.«enumerate.__new__» ⟨[.type "enumerate", .ref l], []⟩) (fun _ R s => s.heap.get? l = some { cls := .type "tuple", dict := dct, data := .seq items n, slots := sl } ∧
      R (.ok (.ret (.ref (s.heap.push { cls := .type "tuple_iterator", data := .fields #[.ref l, .int 0 0] }).objs.size)))
        { s with heap := (s.heap.push { cls := .type "tuple_iterator", data := .fields #[.ref l, .int 0 0] }).push { cls := .type "enumerate", data := .fields #[.none, .bool false, .ref s.heap.objs.size, rawInt 0, .none, .none] } }) :=
  .of_wp fun prog w A R s h => by
    obtain ⟨hp, g, d, tk, os⟩ := s; obtain ⟨hl, h⟩ := h
    have hsub := sub_enumerate
    have hT : Heap.IsTuple (Shared.heap ⟨hp, g, d, tk, os⟩) l items := ⟨_, hl, rfl, n, rfl⟩
    wp_walk using wpAny_loadPart' hl
    refine wpAny_stack_any fun st => wpAny_pure ?_
    split
    · rename_i c _ _ _ _ _
      cases (c == Value.type "enumerate")
      · wp_walk using wpAny_loadPart' hl, wpAny_pyIter_tuple hT
        exact ⟨_, rfl, h⟩
      · wp_walk using wpAny_loadPart' hl, wpAny_pyIter_tuple hT
        exact ⟨_, rfl, h⟩
    · wp_walk using wpAny_loadPart' hl, wpAny_pyIter_tuple hT
      exact ⟨_, rfl, h⟩
def iEnumT (K : PySem.W.Frag) (ta : TA) : TI := fun σ H R => ta σ H fun vs H1 => ∃ a xs, vs = [.ref a] ∧ SqT K H1 a xs ∧ R (ItE K a) H1
theorem pi_enumT {X : Cx} {e : Expr} {ta : TA} {p pos tpos : Pos} {elts : List Expr} {kk : Nat} (hg : Gl X "enumerate") (hm : X.mg "enumerate" = none) (ha : PA X [e] ta) (hs : starEach [e] X.env = [(false, eval e X.env)] := by rfl) :
    PI X (.Tuple elts kk tpos) (.Call (.Name "enumerate" p) [e] [] pos) (iEnumT X.K ta) := by
  refine ⟨fun pins s σ H R I h => ?_⟩
  refine Call_ (ld_blt I hg hm boot_enumerate (PyProof.Rows.callWith_type1 (thn (ha.run pos pins s σ H _ I h) fun us s1 ⟨vs, H1, I1, r1, q1⟩ => ?_) hs rfl))
  obtain ⟨a, xs, ex, hq, q⟩ := q1
  subst ex
  cases r1 with
  | cons r rr =>
    cases rr
    cases r
    obtain ⟨its, rv, p', hz⟩ := I1.tuple hq
    obtain ⟨⟨c, dct, dt, sl⟩, hl, hc, n, hd⟩ := p'
    replace hc : c = .type "tuple" := hc
    replace hd : dt = .seq its.toArray n := hd
    subst hc hd
    have la : a < s1.heap.objs.size := Heap.lt_size hl
    refine callType_new F.called_enumerate (by decide) (F.typeCall_enumerate_1 _) (F.newCall_enumerate_1 _) (fun obj => F.args_object_init_2 obj _) F.entry_enumerate_new (enumT_new a its.toArray n dct sl) ⟨hl, ?_⟩
    generalize ho : ({ cls := .type "tuple_iterator", data := .fields #[.ref a, .int 0 0] } : Obj) = ti
    have hz : (s1.heap.push ti).objs.size = s1.heap.objs.size + 1 := by simp [Heap.push]
    rw [hz]
    have he : IsEnum ((s1.heap.push ti).push { cls := .type "enumerate", data := .fields #[.none, .bool false, .ref s1.heap.objs.size, rawInt 0, .none, .none] }) (s1.heap.objs.size + 1) s1.heap.objs.size 0 .none := by
      have := Heap.get?_push_size (s1.heap.push ti) (o := { cls := .type "enumerate", data := .fields #[.none, .bool false, .ref s1.heap.objs.size, rawInt 0, .none, .none] }) rfl
      rw [hz] at this
      exact this
    have hit : ((s1.heap.push ti).push { cls := .type "enumerate", data := .fields #[.none, .bool false, .ref s1.heap.objs.size, rawInt 0, .none, .none] }).IsTupleIter s1.heap.objs.size a 0 := ⟨ti, Heap.get?_push_of_some _ (Heap.get?_push_size _ (by rw [← ho]; rfl)), by rw [← ho], by rw [← ho]; rfl⟩
    have hk : ∀ b o, s1.heap.get? b = some o → ((s1.heap.push ti).push { cls := .type "enumerate", data := .fields #[.none, .bool false, .ref s1.heap.objs.size, rawInt 0, .none, .none] }).get? b = some o := fun b o x => Heap.get?_push_of_some _ (Heap.get?_push_of_some _ x)
    refine ⟨⟨_, he, rfl⟩, wpAny_pyIter_enum he ?_⟩
    have I2 := I1.kept (t' := s1.toks) hk
    refine ⟨s1.heap.objs.size + 1, [s1.heap.objs.size + 1, s1.heap.objs.size], _, _, H1, rfl, I2, turn_enumT a (s1.heap.objs.size + 1) s1.heap.objs.size, ⟨⟨.none, he⟩, hit, Nat.succ_ne_self _, Nat.ne_of_lt la, Nat.ne_of_gt (Nat.lt_succ_of_lt la)⟩, fun b hb => ?_, q⟩
    have e' : b = s1.heap.objs.size + 1 ∨ b = s1.heap.objs.size := by simpa using hb
    have hle : s1.heap.objs.size ≤ b := by
      rcases e' with z | z
      · rw [z]; exact Nat.le_add_right _ _
      · rw [z]; exact Nat.le_refl _
    exact I1.fpOk hle (I1.hok.fresh hle)
end Cut
set_option Elab.async false
set_option linter.all false
set_option maxRecDepth 100000
set_option maxHeartbeats 8000000
namespace Cut
open PySem PySem.Spec PyProof.Rows L2
/-! ### whether a table can stand behind a line, as the law looks at it -/
theorem for_enumT {K : PySem.W.Frag} {a : Addr} {xs : List V} {σ0 : L2.St} {H0 : Hp} {Done : L2.St → Hp → Prop} {Body : Nat → V → L2.St → Hp → (L2.St → Hp → Prop) → Prop} (Pv : Nat → L2.St → Hp → Prop) (h0 : Pv 0 σ0 H0) (hl : ∀ i σ H, i ≤ xs.length → Pv i σ H → SqT K H a xs)
    (turn : ∀ i x σ H T, xs[i]? = some x → Pv i σ H → H T = none → Body i (.ref T) σ (upd H T (.tup [.int (i : Nat), x])) (Pv (i + 1))) (fin : ∀ σ H, Pv xs.length σ H → Done σ H) :
    ∃ W : Nat → Nat → L2.St → Hp → Prop, (∃ m, W 0 m σ0 H0) ∧ ∀ i m σ H, W i m σ H →
      ((ItE K a).stop i H ∧ Done σ H) ∨ ((ItE K a).go i H ∧ ∃ Nx : L2.St → Hp → Prop, (∀ σ' H', Nx σ' H' → ∃ m', m' < m ∧ W (i + 1) m' σ' H') ∧ ∀ x H', (ItE K a).yld i H x H' → Body i x σ H' Nx) := by
  refine ⟨fun i m σ H => m + i = xs.length ∧ Pv i σ H, ⟨_, rfl, h0⟩, fun i m σ H h => ?_⟩
  obtain ⟨em, p⟩ := h
  have at_ := hl i σ H (by omega) p
  by_cases lt : i < xs.length
  · refine .inr ⟨⟨xs, xs[i], at_, List.getElem?_eq_getElem lt⟩, Pv (i + 1), fun σ' H' p' => ⟨m - 1, by omega, by omega, p'⟩, fun x H' y => ?_⟩
    obtain ⟨T, u, rfl, hT, rfl, hu⟩ := y
    exact turn i u σ H T (hu xs at_) p hT
  · have e : i = xs.length := by omega
    subst e
    exact .inl ⟨⟨xs, at_, Nat.le_refl _⟩, fin σ H p⟩
theorem sub_two {p : List Nat} {a b : Nat} : [a, b].Sublist p ↔ ∃ i j : Nat, i < j ∧ p[i]? = some a ∧ p[j]? = some b := by
  constructor
  · intro h
    obtain ⟨is, e, pw⟩ := List.sublist_eq_map_getElem h
    match is, e, pw with
    | [i, j], e, pw =>
      simp only [List.map_cons, List.map_nil, List.cons.injEq, and_true] at e
      obtain ⟨e1, e2⟩ := e
      simp only [List.pairwise_cons, List.mem_cons, List.not_mem_nil, or_false, forall_eq, false_implies, implies_true, List.Pairwise.nil, and_true] at pw
      exact ⟨i, j, pw, by rw [List.getElem?_eq_getElem i.isLt, e1]; rfl, by rw [List.getElem?_eq_getElem j.isLt, e2]; rfl⟩
  · rintro ⟨i, j, h1, e1, e2⟩
    obtain ⟨l1, e1⟩ := List.getElem?_eq_some_iff.mp e1
    obtain ⟨l2, e2⟩ := List.getElem?_eq_some_iff.mp e2
    have := List.map_getElem_sublist (l := p) (is := [⟨i, l1⟩, ⟨j, l2⟩]) (by
      simp only [List.pairwise_cons, List.mem_cons, List.not_mem_nil, or_false, forall_eq, false_implies, implies_true, List.Pairwise.nil, and_true]
      exact h1)
    simp only [List.map_cons, List.map_nil] at this
    rw [← e1, ← e2]
    exact this
theorem end_chk {ats : List Atm} {p : List Nat} {e : Nat} (ne : e ∉ p) : endB ats p e = true ↔ ∀ (j m : Nat), p[j]? = some m → ∀ a ∈ p.take j, cwB ats m a e = false := by
  rw [endB_iff]
  constructor
  · intro h j m hm a ha
    obtain ⟨i, hi, ei⟩ := List.getElem_of_mem ha
    rw [List.length_take] at hi
    rw [List.getElem_take] at ei
    refine cwB_false.mpr fun w => h a m (sub_two.mpr ⟨i, j, by omega, by rw [List.getElem?_eq_getElem (by omega), ei], hm⟩) (.inr w)
  · intro h a m s
    obtain ⟨i, j, hij, ea, em⟩ := sub_two.mp s
    have := h j m em a (List.mem_of_getElem? (by rw [List.getElem?_take, if_pos hij]; exact ea : (p.take j)[i]? = some a))
    rintro (z | w)
    · exact ne (by rw [← z]; exact List.mem_of_getElem? ea)
    · exact cwB_false.mp this w
theorem cut_take (xs : List V) (i : Nat) : cutV xs none (some ((i : Nat) : Int)) = xs.take i := by
  unfold cutV
  rw [HT.sIx_nat, HT.sIx_none, List.drop_zero, Nat.sub_zero]
  by_cases h : i ≤ xs.length
  · rw [Nat.min_eq_left h]
  · rw [Nat.min_eq_right (by omega), List.take_length, List.take_of_length_le (by omega)]
/-- the texts of the tables can be told -/
def TbOk (ats : List Atm) : Prop := ∀ i, i < ats.length → PyData.strOk (tabAt ats i) = true
theorem tabs_strs (ats : List Atm) (L : List Nat) : tabsV ats L = (L.map (tabAt ats)).map V.str := by
  unfold tabsV
  rw [List.map_map]
  rfl
abbrev NIe : List Str := ["own", "line", "last", "place", "middle", "one"]
theorem scIsEnd : FnScope NIe ["own", "line", "last"] (defScope sIsEnd) := ⟨rfl, rfl, rfl, by decide +kernel, rfl, by decide +kernel, by decide +kernel⟩
section
variable {P : Program} {w : World} {K : PySem.W.Frag} {mg : Str → Option Value} {base : Heap}
def spIsEnd (K : PySem.W.Frag) : Sp := fun vs H Q _ => ∃ (d l : Addr) (ats : List Atm) (p : List Nat) (e : Nat), vs = [.ref d, .ref l, .str (tabAt ats e)] ∧ OwnAt K H d ats ∧ Few ats ∧ (ats.map (·.1)).Nodup ∧ TxOk ats ∧ TbOk ats ∧ SqT K H l (tabsV ats p) ∧ p.length ≤ 6 ∧ (∀ j ∈ p, j < ats.length) ∧ e < ats.length ∧ e ∉ p ∧
  ∀ H', Same H H' → Q (.bl (endB ats p e)) H'
theorem ok_isEnd {f fD : Addr} {fd fdD : FuncData} (F : Fun K "_law_is_end" "_law_is_end" sIsEnd f fd) (B : Blt mg)
    (FD : Fun K "_law_does_part" "_law_does_part" sDoesPart fD fdD) (bD : Binds K fdD ["own", "one", "middle", "other"] []) (gD : mg "_law_does_part" = some (.ref fD)) (GD : FnOk P w K mg base CX0 2 fD fdD ["own", "one", "middle", "other"] (spDoesPart K)) :
    FnOk P w K mg base CX0 3 f fd ["own", "line", "last"] (spIsEnd K) := by
  refine F.ok scIsEnd (fun vs H Q E h => ?_) (fun cdv A outer s H vs Q E hr h => ?_)
  · obtain ⟨d, l, ats, p, e, rfl, _⟩ := h
    rfl
  · obtain ⟨d, l, ats, p, e, rfl, own, few, dist, txok, tbok, hl, p6, lt, le, ne, fin⟩ := h
    have nd := scIsEnd.nd
    refine ⟨_, pss_cons (ps_for PassesOwn.never rfl (pi_enumT (by rfl) B.enum (pa_cons (pv 1) pa_nil)) (pg_tup (by rfl) (pgs_cons (pg_name (i := 3) nd rfl (.inl rfl)) (pgs_cons (pg_name (i := 4) nd rfl (.inr rfl)) pgs_nil)))
      (pss_one (ps_if (pt_cmpR (op_neD hr.units) (pe_lc (own := [("one", 5)]) (g := gName 5) (tt := tNot (tB (tCall (spDoesPart K) [] E0 (tCons (tVar 0) (tCons (tVar 5) (tCons (tVar 4) (tCons (tVar 2) tNil))))))) (te := tVar 5) (by rfl) nd (pi_tup (pe_slice sl_tupA (pv 1) po_none (po_some (pv 3)))) (blkOk_by (own := [("one", 5)]) (N := NIe) (sc := defScope sIsEnd) (by decide +kernel))
          (fun _ _ _ _ _ => pg_name (i := 5) nd rfl (Or.inl rfl)) (fun _ _ _ _ _ => pts_one (pt_not (pt_val (pe_call GD hr (by rfl) gD FD.kp bD .nil pass0 (pa_cons (pv 0) (pa_cons (pv 5) (pa_cons (pv 4) (pa_cons (pv 2) pa_nil)))))))) (fun _ _ _ _ _ => pv 5)) (pe_lst pa_nil) (nomark _))
        (pss_one (ps_ret pe_bl)) pss_nil)))
      (pss_one (ps_ret pe_bl)), ?_⟩
    have tlen : (tabsV ats p).length = p.length := List.length_map ..
    refine ⟨_, rfl, l, _, rfl, hl, ?_⟩
    refine for_enumT (xs := tabsV ats p) (fun i σ H' => ∃ x3 x4 : Option V, σ = [some (.ref d), some (.ref l), some (.str (tabAt ats e)), x3, x4, none] ∧ Same H H' ∧ ∀ (j m : Nat), j < i → p[j]? = some m → ∀ a ∈ p.take j, cwB ats m a e = false)
      ⟨none, none, rfl, Same.refl H, fun j m hj => absurd hj (Nat.not_lt_zero j)⟩ (fun i σ H' _ h => by obtain ⟨_, _, _, sm, _⟩ := h; exact seqT sm hl) ?_ ?_
    · rintro i x σ H1 T hx ⟨x3, x4, rfl, s1, no⟩ nT
      obtain ⟨m, hm, rfl⟩ := tabs_at hx
      have hi := (List.getElem?_eq_some_iff.mp hm).1
      have lm := lt m (List.mem_of_getElem? hm)
      have s2 := s1.trans (same_new (o := .tup [.int (i : Nat), .str (tabAt ats m)]) nT)
      have hT2 : upd H1 T (.tup [.int (i : Nat), .str (tabAt ats m)]) T = some (.tup [.int (i : Nat), .str (tabAt ats m)]) := upd_same
      generalize upd H1 T (.tup [.int (i : Nat), .str (tabAt ats m)]) = H2 at s2 hT2 ⊢
      refine ⟨T, [.int (i : Nat), .str (tabAt ats m)], rfl, SqT.of hT2, rfl, .int (i : Nat), [.str (tabAt ats m)], rfl, .str (tabAt ats m), [], rfl, rfl, ?_⟩
      have sq2 := seqT s2 hl
      refine ⟨_, rfl, _, rfl, (i : Nat), rfl, l, _, rfl, sq2, fun hw => ?_, fun _ z nz => ?_⟩
      · exfalso
        have := hw.2
        rw [HT.sIx_nat, tlen] at this
        omega
      rw [cut_take]
      have s3 := s2.trans (same_new (o := .tup ((tabsV ats p).take i)) nz)
      have hz : upd H2 z (.tup ((tabsV ats p).take i)) z = some (.tup (tabsV ats (p.take i))) := by
        rw [upd_same]
        unfold tabsV
        rw [List.map_take]
      generalize upd H2 z (.tup ((tabsV ats p).take i)) = H3 at s3 hz ⊢
      refine ⟨z, rfl, ⟨_, SqT.of hz⟩, fun D nD => ?_⟩
      refine walk_tup (xs := tabsV ats (p.take i)) (fun k H7 => Same H3 H7 ∧ H7 D = some (.lst (tabsV ats (((p.take i).take k).filter fun a => cwB ats m a e)))) ⟨same_new nD, upd_same⟩ (fun k H7 _ h => SqT.of (h.1 _ _ hz)) ?_ ?_
      · rintro k y H7 hy ⟨sm, hD⟩
        obtain ⟨a, ha, rfl⟩ := tabs_at hy
        have ft := filter_take (fun a => cwB ats m a e) (p.take i) k a ha
        refine ⟨rfl, ?_⟩
        refine ⟨_, rfl, _, rfl, _, rfl, _, rfl, d, ats, a, m, e, rfl, own.same (s3.trans sm), few, dist, txok, lt a (List.mem_of_mem_take (List.mem_of_getElem? ha)), lm, le, fun H8 s8 => ⟨_, rfl, ?_⟩⟩
        cases c : cwB ats m a e with
        | true =>
          rw [if_pos c] at ft
          refine iteT ⟨_, rfl, _, s8 _ _ hD, ?_, fun b u eo => ?_, ?_⟩
          · unfold tabsV
            rw [List.length_map]
            refine small1000 (Nat.le_trans (List.length_filter_le _ _) ?_)
            rw [List.length_take, List.length_take]
            omega
          · rw [upd_ne (ne_of_none eo nD)]
            exact s8 _ _ (sm _ _ eo)
          · rw [upd_same, ft]
            unfold tabsV
            rw [List.map_append]
            rfl
        | false =>
          rw [if_neg (by rw [c]; exact Bool.false_ne_true), List.append_nil] at ft
          refine iteF ⟨sm.trans s8, ?_⟩
          rw [ft]
          exact s8 _ _ hD
      rintro H7 ⟨sm, hD⟩
      rw [show (tabsV ats (p.take i)).length = (p.take i).length from List.length_map .., List.take_length] at hD
      refine ⟨Nat.zero_le _, fun z2 nz2 => ?_⟩
      have s9 := sm.trans (same_new (o := .lst []) nz2)
      have hD9 := at_new (u := .lst []) hD nz2
      have he9 : upd H7 z2 (.lst []) z2 = some (.lst []) := upd_same
      generalize upd H7 z2 (.lst []) = H9 at s9 hD9 he9 ⊢
      generalize hts : ((p.take i).filter fun a => cwB ats m a e) = ts at hD9
      have tsok : ∀ x ∈ ts.map (tabAt ats), PyData.strOk x = true := fun x hx => by
        obtain ⟨j, hj, rfl⟩ := List.mem_map.mp hx
        rw [← hts] at hj
        exact tbok j (lt j (List.mem_of_mem_take (List.mem_filter.mp hj).1))
      have g := strs_layO (ts.map (tabAt ats)) tsok
      rw [tabs_strs] at hD9
      refine ⟨.list ((ts.map (tabAt ats)).map .str), .list [], .lst (SqL.of hD9) (strs_dp _), .lst (SqL.of he9) .nil, shaped_list g.1 (Nat.le_of_eq g.2) (by decide), by decide, _, rfl, ?_⟩
      rw [eqv_nil]
      have emp : ((ts.map (tabAt ats)).map PyData.str).isEmpty = ts.isEmpty := by cases ts <;> rfl
      rw [emp]
      have s19 := s3.trans s9
      cases hte : ts.isEmpty with
      | true =>
        refine iteF ⟨_, _, rfl, s19, fun j m' hj hm' a ha => ?_⟩
        by_cases cj : j = i
        · rw [cj, hm] at hm'
          cases hm'
          rw [cj] at ha
          cases ca : cwB ats m a e with
          | false => rfl
          | true =>
            have : a ∈ ts := by rw [← hts]; exact List.mem_filter.mpr ⟨ha, ca⟩
            rw [List.isEmpty_iff.mp hte] at this
            simp at this
        · exact no j m' (by omega) hm' a ha
      | false =>
        refine iteT ?_
        have er : endB ats p e = false := by
          cases ce : endB ats p e with
          | false => rfl
          | true =>
            have all := (end_chk ne).mp ce i m hm
            have : ts = [] := by
              rw [← hts]
              exact List.filter_eq_nil_iff.mpr fun a ha z => by rw [all a ha] at z; cases z
            rw [this] at hte
            cases hte
        have done := fin H9 s19
        rw [er] at done
        exact done
    · rintro σ H1 ⟨x3, x4, rfl, s1, no⟩
      have er : endB ats p e = true := (end_chk ne).mpr fun j m hm => no j m (by rw [tlen]; exact (List.getElem?_eq_some_iff.mp hm).1) hm
      have done := fin H1 s1
      rw [er] at done
      exact done
end
end Cut
set_option Elab.async false
set_option linter.all false
set_option maxRecDepth 100000
set_option maxHeartbeats 8000000
namespace Cut
open PySem PySem.Spec PyProof.Rows L2
/-! ### the first line, depth first -/
theorem shaped_tup {ds : List PyData} {n : Nat} (h : PyData.canLayAll0 ds = true) (d : PyData.depthAll ds ≤ n) (hn : n ≤ 60) : SeqAt.shaped (.tuple ds) = true := by
  show (PyData.canLay0 (.tuple ds) && decide (PyData.depth (.tuple ds) ≤ 64)) = true
  rw [Bool.and_eq_true]
  refine ⟨by simp only [PyData.canLay0]; exact h, decide_eq_true ?_⟩
  simp only [PyData.depth]
  omega
theorem eqvT_nil (ds : List PyData) : PyData.eqv (.tuple ds) (.tuple []) = ds.isEmpty := by
  cases ds with
  | nil => simp only [PyData.eqv, PyData.eqvAll, List.isEmpty]
  | cons z r => simp only [PyData.eqv, PyData.eqvAll, List.isEmpty]
theorem some_at {α β : Type} {f : α → Option β} {y : β} : ∀ {l : List α} {i : Nat} {x : α}, l[i]? = some x → f x = some y → (∀ (j : Nat) (z : α), j < i → l[j]? = some z → f z = none) → l.findSome? f = some y
  | [], i, x, e, _, _ => by simp at e
  | z :: r, 0, x, e, h, _ => by
    cases e
    rw [List.findSome?_cons, h]
  | z :: r, i + 1, x, e, h, no => by
    rw [List.findSome?_cons, no 0 z (by omega) rfl]
    exact some_at (l := r) e h fun j y hj ey => no (j + 1) y (by omega) ey
theorem some_no {α β : Type} {f : α → Option β} {l : List α} (no : ∀ (j : Nat) (z : α), l[j]? = some z → f z = none) : l.findSome? f = none := List.findSome?_eq_none_iff.mpr fun x hx => by
  obtain ⟨j, hj, e⟩ := List.getElem_of_mem hx
  exact no j x (by rw [List.getElem?_eq_getElem hj, e])
abbrev NGr : List Str := ["own", "line", "rest", "one", "found", "other"]
theorem scGrown : FnScope NGr ["own", "line", "rest"] (defScope sGrown) := ⟨rfl, rfl, rfl, by decide +kernel, rfl, by decide +kernel, by decide +kernel⟩
section
variable {P : Program} {w : World} {K : PySem.W.Frag} {mg : Str → Option Value} {base : Heap}
def spGrown (K : PySem.W.Frag) (n : Nat) : Sp := fun vs H Q _ => ∃ (d l r : Addr) (ats : List Atm) (p R : List Nat), vs = [.ref d, .ref l, .ref r] ∧ OwnAt K H d ats ∧ Few ats ∧ (ats.map (·.1)).Nodup ∧ TxOk ats ∧ TbOk ats ∧ SqT K H l (tabsV ats p) ∧ SqT K H r (tabsV ats R) ∧ R.length < n ∧ p.length + R.length ≤ 6 ∧ (p ++ R).Nodup ∧ (∀ j ∈ p ++ R, j < ats.length) ∧
  ∀ (H' : Hp) (v : V), Same H H' → LnAt K H' ats v (grownN ats R.length p R) → Q v H'
theorem ok_grown {f fE : Addr} {fd fdE : FuncData} (F : Fun K "_law_grown" "_law_grown" sGrown f fd) (B : Blt mg) (bG : Binds K fd ["own", "line", "rest"] []) (gG : mg "_law_grown" = some (.ref f))
    (FE : Fun K "_law_is_end" "_law_is_end" sIsEnd fE fdE) (bE : Binds K fdE ["own", "line", "last"] []) (gE : mg "_law_is_end" = some (.ref fE)) (GE : FnOk P w K mg base CX0 3 fE fdE ["own", "line", "last"] (spIsEnd K)) :
    ∀ n : Nat, FnOk P w K mg base CX0 (n + 4) f fd ["own", "line", "rest"] (spGrown K n)
  | 0 => by
    refine F.ok scGrown (fun vs H Q E h => ?_) (fun cdv A outer s H vs Q E hr h => ?_)
    · obtain ⟨d, l, r, ats, p, R, rfl, _⟩ := h
      rfl
    · obtain ⟨_, _, _, _, _, _, _, _, _, _, _, _, _, _, h, _⟩ := h
      exact absurd h (Nat.not_lt_zero _)
  | n + 1 => by
    have GG := ok_grown F B bG gG FE bE gE GE n
    refine F.ok (k := n + 4) scGrown (fun vs H Q E h => ?_) (fun cdv A outer s H vs Q E hr h => ?_)
    · obtain ⟨d, l, r, ats, p, R, rfl, _⟩ := h
      rfl
    · obtain ⟨d, l, r, ats, p, R, rfl, own, few, dist, txok, tbok, hl, hR, hn, h6, ndp, lt, fin⟩ := h
      have nd := scGrown.nd
      have hr3 : Room 3 _ := hr.mono (by omega)
      refine ⟨_, pss_cons (ps_if (pt_cmpR (op_eqD hr.units) (pv 2) (pe_tup pa_nil) (nomark _)) (pss_one (ps_ret (pv 1))) pss_nil)
        (pss_cons (ps_for PassesOwn.never rfl (pi_tup (pv 2)) (pg_name (i := 3) nd rfl (.inr rfl))
          (pss_one (ps_if (pt_val (pe_call GE hr3 (by rfl) gE FE.kp bE .nil pass0 (pa_cons (pv 0) (pa_cons (pv 1) (pa_cons (pv 3) pa_nil)))))
            (pss_cons (ps_set (i := 4) nd rfl (.inl rfl) (pe_call GG hr (by rfl) gG F.kp bG .nil pass0 (pa_cons (pv 0) (pa_cons (pe_op op_catA (pv 1) (pe_tup (pa_cons (pv 3) pa_nil))) (pa_cons (pe_tupleOf (by rfl) B.tuple
                (pe_lc (own := [("other", 5)]) (g := gName 5) (tt := tTest (tOp rNe (tVar 5) (tVar 3))) (te := tVar 5) (by rfl) nd (pi_tup (pv 2)) (blkOk_by (own := [("other", 5)]) (N := NGr) (sc := defScope sGrown) (by decide +kernel))
                  (fun _ _ _ _ _ => pg_name (i := 5) nd rfl (Or.inl rfl)) (fun _ _ _ _ _ => pts_one (pt_cmpR op_ne (pv 5) (pv 3) (nomark _))) (fun _ _ _ _ _ => pv 5))) pa_nil)))))
            (pss_one (ps_if (pt_cmp (pc_notN (pv 4))) (pss_one (ps_ret (pv 4))) pss_nil))) pss_nil)))
        (pss_one (ps_ret pe_non))), ?_⟩
      have txs : ∀ (L : List Nat), (∀ j ∈ L, j < ats.length) → ∀ x ∈ L.map (tabAt ats), PyData.strOk x = true := fun L hL x hx => by
        obtain ⟨j, hj, rfl⟩ := List.mem_map.mp hx
        exact tbok j (hL j hj)
      have ltR : ∀ j ∈ R, j < ats.length := fun j hj => lt j (List.mem_append_right _ hj)
      have ltp : ∀ j ∈ p, j < ats.length := fun j hj => lt j (List.mem_append_left _ hj)
      have tlen : (tabsV ats R).length = R.length := List.length_map ..
      have ln : ∀ n : Nat, n ≤ 1000 → n ≤ sizeLine := fun n h => Nat.le_of_lt (small1000 h)
      refine ⟨_, rfl, Nat.zero_le _, fun z nz => ?_⟩
      have s0 : Same H (upd H z (.tup [])) := same_new nz
      have hz : upd H z (.tup []) z = some (.tup []) := upd_same
      generalize upd H z (.tup []) = H0 at s0 hz ⊢
      have g := strs_layO (R.map (tabAt ats)) (txs R ltR)
      have hR' : SqT K H0 r ((R.map (tabAt ats)).map V.str) := by rw [← tabs_strs]; exact seqT s0 hR
      refine ⟨.tuple ((R.map (tabAt ats)).map .str), .tuple [], .tup hR' (strs_dp _), .tup (SqT.of hz) .nil, shaped_tup g.1 (Nat.le_of_eq g.2) (by decide), by decide, _, rfl, ?_⟩
      rw [eqvT_nil]
      have emp : ((R.map (tabAt ats)).map PyData.str).isEmpty = R.isEmpty := by cases R <;> rfl
      rw [emp]
      cases hRe : R with
      | nil =>
        refine iteT ⟨_, rfl, fin H0 _ s0 ?_⟩
        rw [hRe]
        exact ⟨l, rfl, seqT s0 hl⟩
      | cons r0 rs =>
        refine iteF ?_
        have kk : R.length = rs.length + 1 := by rw [hRe]; rfl
        have gr : grownN ats R.length p R = R.findSome? fun x => if endB ats p x then grownN ats rs.length (p ++ [x]) (R.filter (· != x)) else none := by
          rw [kk]
          rfl
        refine ⟨_, rfl, r, rfl, ⟨_, seqT s0 hR⟩, ?_⟩
        refine for_tup (xs := tabsV ats R) (fun i σ H' => ∃ x3 x4 : Option V, σ = [some (.ref d), some (.ref l), some (.ref r), x3, x4, none] ∧ Same H H' ∧ ∀ (j x : Nat), j < i → R[j]? = some x → (if endB ats p x then grownN ats rs.length (p ++ [x]) (R.filter (· != x)) else none) = none)
          ⟨none, none, rfl, s0, fun j x hj => absurd hj (Nat.not_lt_zero j)⟩ (fun i σ H' _ h => by obtain ⟨_, _, _, sm, _⟩ := h; exact seqT sm hR) ?_ ?_
        · rintro i y σ H1 hy ⟨x3, x4, rfl, s1, no⟩
          obtain ⟨x, hx, rfl⟩ := tabs_at hy
          have xR := List.mem_of_getElem? hx
          have lx := ltR x xR
          obtain ⟨n1, n2, n3⟩ := List.nodup_append.mp ndp
          have xp : x ∉ p := fun m => n3 x m x xR rfl
          have no' : ∀ {o : Option (List Nat)}, (if endB ats p x then grownN ats rs.length (p ++ [x]) (R.filter (· != x)) else none) = none → ∀ (j x' : Nat), j < i + 1 → R[j]? = some x' → (if endB ats p x' then grownN ats rs.length (p ++ [x']) (R.filter (· != x')) else none) = none := fun {o} e j x' hj hx' => by
            by_cases c : j = i
            · rw [c, hx] at hx'
              cases hx'
              exact e
            · exact no j x' (by omega) hx'
          refine ⟨_, rfl, _, rfl, _, rfl, d, l, ats, p, x, rfl, own.same s1, few, dist, txok, tbok, seqT s1 hl, by omega, ltp, lx, xp, fun H2 s2 => ⟨_, rfl, ?_⟩⟩
          have s12 := s1.trans s2
          cases c : endB ats p x with
          | false =>
            exact iteF ⟨_, _, rfl, s12, no' (o := none) (by rw [c]; rfl)⟩
          | true =>
            have pe : R.Perm (x :: R.erase x) := List.perm_cons_erase xR
            have fe : R.filter (· != x) = R.erase x := (n2.erase_eq_filter x).symm
            have fl : (R.filter (· != x)).length = rs.length := by
              rw [fe, List.length_erase_of_mem xR]
              omega
            refine iteT ⟨_, rfl, _, rfl, _, rfl, ln 1 (by decide), fun t nt => ?_⟩
            have s3 := s12.trans (same_new (o := .tup [.str (tabAt ats x)]) nt)
            have ht : upd H2 t (.tup [.str (tabAt ats x)]) t = some (.tup [.str (tabAt ats x)]) := upd_same
            generalize upd H2 t (.tup [.str (tabAt ats x)]) = H3 at s3 ht ⊢
            have pl : (tabsV ats p).length = p.length := List.length_map ..
            refine ⟨l, t, _, _, rfl, rfl, seqT s3 hl, SqT.of ht, ln _ (by rw [pl]; show p.length + 1 ≤ 1000; omega), fun hcat => ?c1, fun _ hy => absurd hy (by simp), fun hcat hy z2 nz2 => ?c2⟩
            case' c1 =>
              obtain ⟨a', ea⟩ : ∃ a', a' = t := ⟨_, rfl⟩
              obtain ⟨H4, eH⟩ : ∃ H4, H4 = H3 := ⟨_, rfl⟩
              have sq : SqT K H4 a' (tabsV ats (p ++ [x])) := by
                have p0 : p = [] := by
                  cases p with
                  | nil => rfl
                  | cons a b => cases hcat
                rw [ea, eH, p0]
                exact SqT.of ht
              have s4 : Same H H4 := by rw [eH]; exact s3
              rw [← ea, ← eH]
              clear ea eH
            case' c2 =>
              obtain ⟨a', ea⟩ : ∃ a', a' = z2 := ⟨_, rfl⟩
              obtain ⟨H4, eH⟩ : ∃ H4, H4 = upd H3 z2 (.tup (tabsV ats p ++ [.str (tabAt ats x)])) := ⟨_, rfl⟩
              have sq : SqT K H4 a' (tabsV ats (p ++ [x])) := by
                rw [ea, eH, tabs_snoc]
                exact SqT.of upd_same
              have s4 : Same H H4 := by rw [eH]; exact s3.trans (same_new nz2)
              rw [← eH, ← ea]
              clear ea eH hy
            all_goals
              refine ⟨_, rfl, r, rfl, ⟨_, seqT s4 hR⟩, fun D nD => ?_⟩
              refine walk_tup (xs := tabsV ats R) (fun k H7 => Same H4 H7 ∧ H7 D = some (.lst (tabsV ats ((R.take k).filter (· != x))))) ⟨same_new nD, upd_same⟩ (fun k H7 _ h => seqT (s4.trans h.1) hR) ?_ ?_
              · rintro k y H7 hy ⟨sm, hD⟩
                obtain ⟨o, ho, rfl⟩ := tabs_at hy
                have lo := ltR o (List.mem_of_getElem? ho)
                have ft := filter_take (· != x) R k o ho
                refine ⟨rfl, ?_⟩
                refine ⟨_, rfl, _, rfl, rfl, _, rfl, ?_⟩
                have e1 : (!decide (V.str (tabAt ats o) = V.str (tabAt ats x))) = (o != x) := by
                  by_cases co : o = x
                  · rw [co, decide_eq_true rfl]
                    simp
                  · rw [decide_eq_false fun z => co (tab_inj dist lo lx (V.str.inj z))]
                    simp [co]
                rw [e1]
                cases co : (o != x) with
                | true =>
                  rw [if_pos co] at ft
                  refine iteT ⟨_, rfl, _, hD, ?_, fun b u eo => ?_, ?_⟩
                  · unfold tabsV
                    rw [List.length_map]
                    refine small1000 (Nat.le_trans (List.length_filter_le _ _) ?_)
                    rw [List.length_take]
                    omega
                  · rw [upd_ne (ne_of_none eo nD)]
                    exact sm _ _ eo
                  · rw [upd_same, ft]
                    unfold tabsV
                    rw [List.map_append]
                    rfl
                | false =>
                  rw [if_neg (by rw [co]; exact Bool.false_ne_true), List.append_nil] at ft
                  refine iteF ⟨sm, ?_⟩
                  rw [ft]
                  exact hD
              rintro H7 ⟨sm, hD⟩
              rw [tlen, List.take_length] at hD
              refine .inl ⟨D, _, rfl, SqL.of hD, fun tt ntt => ?_⟩
              have e8 := same_new (o := .tup (tabsV ats (R.filter (· != x)))) ntt
              have htt : upd H7 tt (.tup (tabsV ats (R.filter (· != x)))) tt = some (.tup (tabsV ats (R.filter (· != x)))) := upd_same
              have s48 := sm.trans e8
              generalize upd H7 tt (.tup (tabsV ats (R.filter (· != x)))) = H8 at s48 htt ⊢
              have nd2 : ((p ++ [x]) ++ R.filter (· != x)).Nodup := by
                rw [fe, List.append_assoc]
                exact ((List.Perm.append_left p pe).nodup_iff).mp ndp
              refine ⟨d, a', tt, ats, p ++ [x], R.filter (· != x), rfl, own.same (s4.trans s48), few, dist, txok, tbok, seqT s48 sq, SqT.of htt, by omega, by rw [List.length_append, fl]; show p.length + 1 + rs.length ≤ 6; omega, nd2, fun j hj => ?_, fun H9 v s9 ln9 => ?_⟩
              · rcases List.mem_append.mp hj with hj | hj
                · rcases List.mem_append.mp hj with hj | hj
                  · exact ltp j hj
                  · rw [List.mem_singleton.mp hj]
                    exact lx
                · exact ltR j (List.mem_filter.mp hj).1
              rw [fl] at ln9
              have sH9 := s4.trans (s48.trans s9)
              refine ⟨_, rfl, _, rfl, ?_⟩
              cases cg : grownN ats rs.length (p ++ [x]) (R.filter (· != x)) with
              | none =>
                rw [cg] at ln9
                rw [show v = .non from ln9]
                exact iteF ⟨_, _, rfl, sH9, no' (o := none) (by rw [c, if_pos rfl, cg])⟩
              | some pp =>
                rw [cg] at ln9
                obtain ⟨av, rfl, sv⟩ := ln9
                refine iteT ⟨_, rfl, fin H9 _ sH9 ?_⟩
                have e : grownN ats R.length p R = some pp := by
                  rw [gr]
                  exact some_at hx (by rw [c, if_pos rfl, cg]) no
                rw [e]
                exact ⟨av, rfl, sv⟩
        · rintro σ H1 ⟨x3, x4, rfl, s1, no⟩
          refine fin H1 _ s1 ?_
          have e : grownN ats R.length p R = none := by
            rw [gr]
            exact some_no fun j z hz => no j z (by rw [tlen]; exact (List.getElem?_eq_some_iff.mp hz).1) hz
          rw [e]
          exact rfl
end
end Cut
set_option Elab.async false
set_option linter.all false
set_option maxRecDepth 100000
set_option maxHeartbeats 8000000
namespace Cut
open PySem PySem.Spec PyProof.Rows L2
abbrev NFl : List Str := ["question", "tables"]
theorem scFirstLine : FnScope NFl ["question", "tables"] (defScope sFirstLine) := ⟨rfl, rfl, rfl, by decide +kernel, rfl, by decide +kernel, by decide +kernel⟩
abbrev NFt3 : List Str := ["own", "tables", "place", "one", "more", "other", "last", "parted"]
theorem scFirstTriad : FnScope NFt3 ["own", "tables"] (defScope sFirstTriad) := ⟨rfl, rfl, rfl, by decide +kernel, rfl, by decide +kernel, by decide +kernel⟩
theorem cut_drop (xs : List V) (i : Nat) : cutV xs (some ((i : Nat) : Int)) none = xs.drop i := by
  unfold cutV
  rw [HT.sIx_nat, HT.sIx_none]
  by_cases h : i ≤ xs.length
  · rw [Nat.min_eq_left h, List.take_of_length_le (by rw [List.length_drop]; exact Nat.le_refl _)]
  · rw [Nat.min_eq_right (by omega), List.drop_length, List.drop_eq_nil_of_le (by omega)]
    simp
section
variable {P : Program} {w : World} {K : PySem.W.Frag} {mg : Str → Option Value} {base : Heap}
def spFirstLine (K : PySem.W.Frag) : Sp := fun vs H Q _ => ∃ (q tl : Addr) (ats : List Atm) (T : List Nat), vs = [.ref q, .ref tl] ∧ QTb K H q tl ats T ∧ TxOk ats ∧ TbOk ats ∧
  ∀ (H' : Hp) (v : V), Same H H' → LnAt K H' ats v (lineN ats T) → Q v H'
theorem ok_firstLine {f fO fG : Addr} {fd fdO fdG : FuncData} (F : Fun K "_law_first_line" "_law_first_line" sFirstLine f fd) (B : Blt mg)
    (FO : Fun K "_law_own_names" "_law_own_names" sOwn fO fdO) (bO : Binds K fdO ["question"] []) (gO : mg "_law_own_names" = some (.ref fO)) (GO : FnOk P w K mg base CX0 1 fO fdO ["question"] (spOwn K))
    (FG : Fun K "_law_grown" "_law_grown" sGrown fG fdG) (bG : Binds K fdG ["own", "line", "rest"] []) (gG : mg "_law_grown" = some (.ref fG)) (GG : FnOk P w K mg base CX0 11 fG fdG ["own", "line", "rest"] (spGrown K 7)) :
    FnOk P w K mg base CX0 12 f fd ["question", "tables"] (spFirstLine K) := by
  refine F.ok scFirstLine (fun vs H Q E h => ?_) (fun cdv A outer s H vs Q E hr h => ?_)
  · obtain ⟨q, tl, ats, T, rfl, _⟩ := h
    rfl
  · obtain ⟨q, tl, ats, T, rfl, x, txok, tbok, fin⟩ := h
    have nd := scFirstLine.nd
    have hr1 : Room 1 _ := hr.mono (by decide)
    refine ⟨_, pss_one (ps_ret (pe_call GG hr (by rfl) gG FG.kp bG .nil pass0 (pa_cons (pe_call GO hr1 (by rfl) gO FO.kp bO .nil pass0 (pa_cons (pv 0) pa_nil)) (pa_cons (pe_tup pa_nil) (pa_cons (pe_tupleOf (by rfl) B.tuple (pv 1)) pa_nil))))), ?_⟩
    obtain ⟨head, hq⟩ := x.q
    refine ⟨_, rfl, q, head, ats, rfl, hq, x.few, x.dist, fun H1 d s1 nd1 own => ⟨Nat.zero_le _, fun z nz => ?_⟩⟩
    have s2 := s1.trans (same_new (o := .tup []) nz)
    have hz : upd H1 z (.tup []) z = some (.tup (tabsV ats [])) := upd_same
    have own2 := own.same (same_new (o := .tup []) nz)
    generalize upd H1 z (.tup []) = H2 at s2 hz own2 ⊢
    have six := x.six
    refine ⟨_, rfl, .inr ⟨tl, _, rfl, seqT s2 x.tl, d, z, tl, ats, [], T, rfl, own2, x.few, x.dist, txok, tbok, SqT.of hz, seqT s2 x.tl, by omega, by simpa using six, by simpa using x.nd, by simpa using x.lt, fun H' v s3 ln => ?_⟩⟩
    rw [grown_line] at ln
    exact fin H' v (s2.trans s3) ln
def TpAt (K : PySem.W.Frag) (H : Hp) (ats : List Atm) (v : V) : Option (Nat × Nat × Nat) → Prop
  | none => v = .non
  | some x => TrAt K H ats v x
def spFirstTriad (K : PySem.W.Frag) : Sp := fun vs H Q _ => ∃ (d tl : Addr) (ats : List Atm) (T : List Nat), vs = [.ref d, .ref tl] ∧ OwnAt K H d ats ∧ Few ats ∧ (ats.map (·.1)).Nodup ∧ TxOk ats ∧ SqT K H tl (tabsV ats T) ∧ T.length ≤ 6 ∧ (∀ k ∈ T, k < ats.length) ∧
  ∀ (H' : Hp) (v : V), Same H H' → TpAt K H' ats v (triN ats T) → Q v H'
theorem eqv_ff (a b : Bool) : PyData.eqv (.list [.bool a, .bool b]) (.list [.bool false, .bool false]) = (!a && !b) := by
  cases a <;> cases b <;> decide +kernel
theorem shaped_ff (a b : Bool) : SeqAt.shaped (.list [.bool a, .bool b]) = true := by
  cases a <;> cases b <;> decide +kernel
theorem ok_firstTriad {f fD : Addr} {fd fdD : FuncData} (F : Fun K "_law_first_triad" "_law_first_triad" sFirstTriad f fd) (B : Blt mg)
    (FD : Fun K "_law_does_part" "_law_does_part" sDoesPart fD fdD) (bD : Binds K fdD ["own", "one", "middle", "other"] []) (gD : mg "_law_does_part" = some (.ref fD)) (GD : FnOk P w K mg base CX0 2 fD fdD ["own", "one", "middle", "other"] (spDoesPart K)) :
    FnOk P w K mg base CX0 3 f fd ["own", "tables"] (spFirstTriad K) := by
  refine F.ok scFirstTriad (fun vs H Q E h => ?_) (fun cdv A outer s H vs Q E hr h => ?_)
  · obtain ⟨d, tl, ats, T, rfl, _⟩ := h
    rfl
  · obtain ⟨d, tl, ats, T, rfl, own, few, dist, txok, htl, t6, lt, fin⟩ := h
    have nd := scFirstTriad.nd
    have ln : ∀ n : Nat, n ≤ 1000 → n ≤ sizeLine := fun n h => Nat.le_of_lt (small1000 h)
    refine ⟨_, pss_cons (ps_for PassesOwn.never rfl (pi_enumT (by rfl) B.enum (pa_cons (pv 1) pa_nil)) (pg_tup (by rfl) (pgs_cons (pg_name (i := 2) nd rfl (.inl rfl)) (pgs_cons (pg_name (i := 3) nd rfl (.inl rfl)) pgs_nil)))
      (pss_one (ps_for PassesOwn.never rfl (pi_enumT (by rfl) B.enum (pa_cons (pe_slice sl_tupA (pv 1) (po_some (pe_op op_add (pv 2) pe_int)) po_none) pa_nil)) (pg_tup (by rfl) (pgs_cons (pg_name (i := 4) nd rfl (.inl rfl)) (pgs_cons (pg_name (i := 5) nd rfl (.inl rfl)) pgs_nil)))
        (pss_one (ps_for PassesOwn.never rfl (pi_tup (pe_slice sl_tupA (pv 1) (po_some (pe_op op_add (pe_op op_add (pv 2) (pv 4)) pe_int)) po_none)) (pg_name (i := 6) nd rfl (.inl rfl))
          (pss_cons (ps_set (i := 7) nd rfl (.inl rfl) (pe_lst (pa_cons (pe_call GD hr (by rfl) gD FD.kp bD .nil pass0 (pa_cons (pv 0) (pa_cons (pv 3) (pa_cons (pv 5) (pa_cons (pv 6) pa_nil))))) (pa_cons (pe_call GD hr (by rfl) gD FD.kp bD .nil pass0 (pa_cons (pv 0) (pa_cons (pv 5) (pa_cons (pv 3) (pa_cons (pv 6) pa_nil))))) pa_nil))))
          (pss_one (ps_if (PW.pt (pw_and (pt_cmpR (op_eqD hr.units) (pv 7) (pe_lst (pa_cons pe_bl (pa_cons pe_bl pa_nil))) (nomark _)) (pw_and1 (pt_not (pt_val (pe_call GD hr (by rfl) gD FD.kp bD .nil pass0 (pa_cons (pv 0) (pa_cons (pv 3) (pa_cons (pv 6) (pa_cons (pv 5) pa_nil))))))))))
            (pss_one (ps_ret (pe_tup (pa_cons (pv 3) (pa_cons (pv 5) (pa_cons (pv 6) pa_nil)))))) pss_nil))))))))
      (pss_one (ps_ret pe_non)), ?_⟩
    have tlen : ∀ L : List Nat, (tabsV ats L).length = L.length := fun L => List.length_map ..
    have dropV : ∀ (k : Nat) (L : List Nat), (tabsV ats L).drop k = tabsV ats (L.drop k) := fun k L => by
      unfold tabsV
      rw [List.map_drop]
    have dropC : ∀ {L : List Nat} {k x : Nat}, L[k]? = some x → L.drop k = x :: L.drop (k + 1) := fun {L k x} h => by
      obtain ⟨hk, e⟩ := List.getElem?_eq_some_iff.mp h
      rw [List.drop_eq_getElem_cons hk, e]
    refine ⟨_, rfl, tl, _, rfl, htl, ?_⟩
    refine for_enumT (xs := tabsV ats T) (fun i σ H' => ∃ x2 x3 x4 x5 x6 x7 : Option V, σ = [some (.ref d), some (.ref tl), x2, x3, x4, x5, x6, x7] ∧ Same H H' ∧ triN ats T = (comb3 (T.drop i)).find? (triB ats))
      ⟨none, none, none, none, none, none, rfl, Same.refl H, rfl⟩ (fun i σ H' _ h => by obtain ⟨_, _, _, _, _, _, _, sm, _⟩ := h; exact seqT sm htl) ?_ ?_
    · rintro i x σ H1 Ta hx ⟨x2, x3, x4, x5, x6, x7, rfl, s1, inv⟩ nTa
      obtain ⟨a, ha, rfl⟩ := tabs_at hx
      have hi := (List.getElem?_eq_some_iff.mp ha).1
      have la := lt a (List.mem_of_getElem? ha)
      have s2 := s1.trans (same_new (o := .tup [.int (i : Nat), .str (tabAt ats a)]) nTa)
      have hT2 : upd H1 Ta (.tup [.int (i : Nat), .str (tabAt ats a)]) Ta = some (.tup [.int (i : Nat), .str (tabAt ats a)]) := upd_same
      generalize upd H1 Ta (.tup [.int (i : Nat), .str (tabAt ats a)]) = H2 at s2 hT2 ⊢
      refine ⟨Ta, [.int (i : Nat), .str (tabAt ats a)], rfl, SqT.of hT2, rfl, .int (i : Nat), [.str (tabAt ats a)], rfl, .str (tabAt ats a), [], rfl, rfl, ?_⟩
      have ei : ((i : Nat) : Int) + 1 = ((i + 1 : Nat) : Int) := by omega
      refine ⟨_, rfl, _, rfl, _, _, rfl, rfl, ((i + 1 : Nat) : Int), congrArg V.int ei, tl, _, rfl, seqT s2 htl, fun hw => ?_, fun _ z nz => ?_⟩
      · exfalso
        have := hw.1
        rw [HT.sIx_nat, tlen] at this
        omega
      rw [cut_drop, dropV]
      have s3 := s2.trans (same_new (o := .tup (tabsV ats (T.drop (i + 1)))) nz)
      have hz : upd H2 z (.tup (tabsV ats (T.drop (i + 1)))) z = some (.tup (tabsV ats (T.drop (i + 1)))) := upd_same
      generalize upd H2 z (.tup (tabsV ats (T.drop (i + 1)))) = H3 at s3 hz ⊢
      rw [dropC ha] at inv
      have inv : triN ats T = ((comb2 (T.drop (i + 1))).map (a, ·) ++ comb3 (T.drop (i + 1))).find? (triB ats) := inv
      refine ⟨z, _, rfl, SqT.of hz, ?_⟩
      refine for_enumT (xs := tabsV ats (T.drop (i + 1))) (fun j σ H' => ∃ x4 x5 x6 x7 : Option V, σ = [some (.ref d), some (.ref tl), some (.int (i : Nat)), some (.str (tabAt ats a)), x4, x5, x6, x7] ∧ Same H3 H' ∧ triN ats T = ((comb2 ((T.drop (i + 1)).drop j)).map (a, ·) ++ comb3 (T.drop (i + 1))).find? (triB ats))
        ⟨x4, x5, x6, x7, rfl, Same.refl H3, inv⟩ (fun j σ H' _ h => by obtain ⟨_, _, _, _, _, sm, _⟩ := h; exact SqT.of (sm _ _ hz)) ?_ ?_
      · rintro j y σ H4 Tb hy ⟨x4, x5, x6, x7, rfl, s4, inv1⟩ nTb
        obtain ⟨b, hb, rfl⟩ := tabs_at hy
        have lb := lt b (List.mem_of_mem_drop (List.mem_of_getElem? hb))
        have s5 := s4.trans (same_new (o := .tup [.int (j : Nat), .str (tabAt ats b)]) nTb)
        have hT5 : upd H4 Tb (.tup [.int (j : Nat), .str (tabAt ats b)]) Tb = some (.tup [.int (j : Nat), .str (tabAt ats b)]) := upd_same
        generalize upd H4 Tb (.tup [.int (j : Nat), .str (tabAt ats b)]) = H5 at s5 hT5 ⊢
        refine ⟨Tb, [.int (j : Nat), .str (tabAt ats b)], rfl, SqT.of hT5, rfl, .int (j : Nat), [.str (tabAt ats b)], rfl, .str (tabAt ats b), [], rfl, rfl, ?_⟩
        have ej : ((i : Nat) : Int) + ((j : Nat) : Int) + 2 = ((i + j + 2 : Nat) : Int) := by omega
        have s05 := s3.trans s5
        refine ⟨_, rfl, _, rfl, _, rfl, _, _, rfl, rfl, _, _, rfl, rfl, ((i + j + 2 : Nat) : Int), congrArg V.int ej, tl, _, rfl, seqT s05 htl, fun hw => ?_, fun _ z2 nz2 => ?_⟩
        · exfalso
          have := hw.1
          rw [HT.sIx_nat, tlen] at this
          omega
        rw [cut_drop, dropV]
        rw [dropC hb, List.drop_drop, show i + 1 + (j + 1) = i + j + 2 by omega] at inv1
        generalize hU2 : T.drop (i + j + 2) = U2 at inv1 ⊢
        have eU : (T.drop (i + 1)).drop (j + 1) = U2 := by rw [List.drop_drop, show i + 1 + (j + 1) = i + j + 2 by omega]; exact hU2
        generalize T.drop (i + 1) = U1 at inv1 hz hb eU ⊢
        have inv1 : triN ats T = (((U2.map (b, ·) ++ comb2 U2).map (a, ·)) ++ comb3 U1).find? (triB ats) := inv1
        rw [List.map_append, List.map_map, List.append_assoc] at inv1
        have u6 : U2.length ≤ 6 := by rw [← hU2, List.length_drop]; omega
        have ltU : ∀ k ∈ U2, k < ats.length := fun k hk => lt k (List.mem_of_mem_drop (by rw [hU2]; exact hk))
        have s6 := s5.trans (same_new (o := .tup (tabsV ats U2)) nz2)
        have hz2 : upd H5 z2 (.tup (tabsV ats U2)) z2 = some (.tup (tabsV ats U2)) := upd_same
        generalize upd H5 z2 (.tup (tabsV ats U2)) = H6 at s6 hz2 ⊢
        refine ⟨z2, rfl, ⟨_, SqT.of hz2⟩, ?_⟩
        refine for_tup (xs := tabsV ats U2) (fun k σ H' => ∃ x6 x7 : Option V, σ = [some (.ref d), some (.ref tl), some (.int (i : Nat)), some (.str (tabAt ats a)), some (.int (j : Nat)), some (.str (tabAt ats b)), x6, x7] ∧ Same H6 H' ∧ triN ats T = ((U2.drop k).map ((a, ·) ∘ (b, ·)) ++ ((comb2 U2).map (a, ·) ++ comb3 U1)).find? (triB ats))
          ⟨x6, x7, rfl, Same.refl H6, inv1⟩ (fun k σ H' _ h => by obtain ⟨_, _, _, sm, _⟩ := h; exact SqT.of (sm _ _ hz2)) ?_ ?_
        · rintro k v σ H7 hv ⟨x6, x7, rfl, s7, inv2⟩
          obtain ⟨c, hc, rfl⟩ := tabs_at hv
          have lc := ltU c (List.mem_of_getElem? hc)
          rw [dropC hc] at inv2
          have inv2 : triN ats T = (((a, b, c) : Nat × Nat × Nat) :: ((U2.drop (k + 1)).map ((a, ·) ∘ (b, ·)) ++ ((comb2 U2).map (a, ·) ++ comb3 U1))).find? (triB ats) := inv2
          rw [List.find?_cons] at inv2
          have s07 := s3.trans (s6.trans s7)
          refine ⟨_, rfl, _, rfl, _, rfl, _, rfl, d, ats, a, b, c, rfl, own.same s07, few, dist, txok, la, lb, lc, fun H8 s8 => ⟨_, rfl, _, rfl, _, rfl, _, rfl, d, ats, b, a, c, rfl, own.same (s07.trans s8), few, dist, txok, lb, la, lc, fun H9 s9 => ⟨ln 2 (by decide), fun lp nlp => ?_⟩⟩⟩
          have s79 := s8.trans s9
          have s7a := s79.trans (same_new (o := .lst [.bl (!cwB ats b a c), .bl (!cwB ats a b c)]) nlp)
          have hlp : upd H9 lp (.lst [.bl (!cwB ats b a c), .bl (!cwB ats a b c)]) lp = some (.lst [.bl (!cwB ats b a c), .bl (!cwB ats a b c)]) := upd_same
          generalize upd H9 lp (.lst [.bl (!cwB ats b a c), .bl (!cwB ats a b c)]) = Ha at s7a hlp ⊢
          refine ⟨_, rfl, ln 2 (by decide), fun lq nlq => ?_⟩
          have s7b := s7a.trans (same_new (o := .lst [.bl false, .bl false]) nlq)
          have hlp2 := at_new (u := .lst [.bl false, .bl false]) hlp nlq
          have hlq : upd Ha lq (.lst [.bl false, .bl false]) lq = some (.lst [.bl false, .bl false]) := upd_same
          generalize upd Ha lq (.lst [.bl false, .bl false]) = Hb at s7b hlp2 hlq ⊢
          refine ⟨.list [.bool (!cwB ats b a c), .bool (!cwB ats a b c)], .list [.bool false, .bool false], .lst (SqL.of hlp2) (.cons (.bl _) (.cons (.bl _) .nil)), .lst (SqL.of hlq) (.cons (.bl _) (.cons (.bl _) .nil)), shaped_ff _ _, shaped_ff _ _, _, rfl, ?_⟩
          rw [eqv_ff]
          have te : triB ats (a, b, c) = (cwB ats c a b && (cwB ats b a c && cwB ats a b c)) := rfl
          have s0b := s07.trans s7b
          have stay : triB ats (a, b, c) = false → ∃ x6 x7 : Option V, [some (V.ref d), some (.ref tl), some (.int (i : Nat)), some (.str (tabAt ats a)), some (.int (j : Nat)), some (.str (tabAt ats b)), some (.str (tabAt ats c)), some (.ref lp)] = [some (V.ref d), some (.ref tl), some (.int (i : Nat)), some (.str (tabAt ats a)), some (.int (j : Nat)), some (.str (tabAt ats b)), x6, x7] ∧ triN ats T = ((U2.drop (k + 1)).map ((a, ·) ∘ (b, ·)) ++ ((comb2 U2).map (a, ·) ++ comb3 U1)).find? (triB ats) := fun e => by
            rw [e] at inv2
            exact ⟨_, _, rfl, inv2⟩
          cases c1 : cwB ats b a c with
          | false =>
            obtain ⟨y6, y7, e, i2⟩ := stay (by rw [te, c1]; simp)
            exact iteF (iteF ⟨y6, y7, e, s7.trans s7b, i2⟩)
          | true =>
            cases c2 : cwB ats a b c with
            | false =>
              obtain ⟨y6, y7, e, i2⟩ := stay (by rw [te, c2]; simp)
              exact iteF (iteF ⟨y6, y7, e, s7.trans s7b, i2⟩)
            | true =>
              refine iteT ⟨_, rfl, _, rfl, _, rfl, _, rfl, d, ats, a, c, b, rfl, own.same s0b, few, dist, txok, la, lc, lb, fun Hc sc => ⟨_, rfl, ?_⟩⟩
              cases c3 : cwB ats c a b with
              | false =>
                obtain ⟨y6, y7, e, i2⟩ := stay (by rw [te, c3]; rfl)
                exact iteF ⟨y6, y7, e, s7.trans (s7b.trans sc), i2⟩
              | true =>
                refine iteT ⟨_, rfl, _, rfl, _, rfl, ln 3 (by decide), fun z3 nz3 => ?_⟩
                refine fin _ _ (s0b.trans (sc.trans (same_new nz3))) ?_
                have e : triN ats T = some (a, b, c) := by
                  rw [te, c1, c2, c3] at inv2
                  exact inv2
                rw [e]
                exact ⟨z3, rfl, SqT.of upd_same⟩
        · rintro σ H7 ⟨x6, x7, rfl, s7, inv2⟩
          rw [tlen, List.drop_length] at inv2
          refine ⟨_, _, _, _, rfl, s6.trans s7, ?_⟩
          rw [eU]
          exact inv2
      · rintro σ H4 ⟨x4, x5, x6, x7, rfl, s4, inv1⟩
        rw [tlen, List.drop_length] at inv1
        exact ⟨_, _, _, _, _, _, rfl, s3.trans s4, inv1⟩
    · rintro σ H1 ⟨x2, x3, x4, x5, x6, x7, rfl, s1, inv⟩
      rw [tlen, List.drop_length] at inv
      refine fin H1 _ s1 ?_
      have e : triN ats T = none := inv
      rw [e]
      exact rfl
end
end Cut
set_option Elab.async false
set_option linter.all false
set_option maxRecDepth 100000
set_option maxHeartbeats 8000000
namespace Cut
open PySem PySem.Spec PyProof.Rows L2
/-! ### the judge of lines -/
theorem tyX_tup {K : PySem.W.Frag} {H : Hp} {a : Addr} {xs : List V} (h : SqT K H a xs) : TyX K H (.ref a) (.type "tuple") := by
  rcases h with (h | ⟨o, h⟩) | ⟨o, _, _, h, hc, _⟩
  · exact .base (.tup h)
  · exact .fTuple h
  · exact .kTuple h hc
theorem kit_tt {K : PySem.W.Frag} : PySem.W.kitOne K (.type "tuple") (.type "tuple") = some true := kit_ty (by decide +kernel)
theorem kit_ss {K : PySem.W.Frag} : PySem.W.kitOne K (.type "str") (.type "str") = some true := kit_ty (by decide +kernel)
abbrev NSl : List Str := ["question", "tables", "thing", "table"]
theorem scShowsL : FnScope NSl ["question", "tables", "thing"] (defScope sShowsLine) := ⟨rfl, rfl, rfl, by decide +kernel, rfl, by decide +kernel, by decide +kernel⟩
section
variable {P : Program} {w : World} {K : PySem.W.Frag} {mg : Str → Option Value} {base : Heap}
def spShowsL (K : PySem.W.Frag) : Sp := fun vs H Q _ => ∃ (q tl o : Addr) (ats : List Atm) (T p : List Nat), vs = [.ref q, .ref tl, .ref o] ∧ QTb K H q tl ats T ∧ SqT K H o (tabsV ats p) ∧ lineN ats T = some p ∧
  ∀ H', Same H H' → Q (.bl true) H'
theorem ok_showsL {f fR fL : Addr} {fd fdR fdL : FuncData} (F : Fun K "shows_line" "shows_line" sShowsLine f fd) (B : Blt mg) (mAll : mg "all" = none)
    (FR : Fun K "_reached" "_reached" sReachedAll fR fdR) (bR : Binds K fdR ["question", "tables"] []) (gR : mg "_reached" = some (.ref fR)) (GR : FnOk P w K mg base CX0 3 fR fdR ["question", "tables"] (spReachA K))
    (FL : Fun K "_is_line" "_is_line" sIsLineP fL fdL) (bL : Binds K fdL ["reached", "order"] []) (gL : mg "_is_line" = some (.ref fL)) (GL : FnOk P w K mg base CX0 1 fL fdL ["reached", "order"] (spIsLine K)) :
    FnOk P w K mg base CX0 4 f fd ["question", "tables", "thing"] (spShowsL K) := by
  refine F.ok scShowsL (fun vs H Q E h => ?_) (fun cdv A outer s H vs Q E hr h => ?_)
  · obtain ⟨q, tl, o, ats, T, p, rfl, _⟩ := h
    rfl
  · obtain ⟨q, tl, o, ats, T, p, rfl, x, ho, hp, fin⟩ := h
    have nd := scShowsL.nd
    have hr1 : Room 1 _ := hr.mono (by decide)
    refine ⟨_, pss_cons (ps_if (PW.pt (pw_or (pt_not (pt_val (pe_callB (id := "isinstance") (r := rIsi K) call_isi (by rfl) B.isi (by decide +kernel) (pa_cons (pv 2) (pa_cons (pe_bltn (v := .ty "tuple") (by rfl) B.tuple (by decide +kernel) rfl) pa_nil)))))
        (pw_or1 (pt_cmpR op_ne (pe_callB call_len_seq (by rfl) B.len PySem.boot_len (pa_cons (pv 2) pa_nil)) (pe_callB call_len_seq (by rfl) B.len PySem.boot_len (pa_cons (pv 1) pa_nil)) (nomark _))))) (pss_one (ps_ret pe_bl)) pss_nil)
      (pss_cons (ps_if (pt_not (pt_val (pe_callB (id := "all") (r := rAll K) (cr_all (by rfl)) (by rfl) mAll (by decide +kernel) (pa_cons (pe_lc (own := [("table", 3)]) (g := gName 3) (tt := tYes) (te := tOp (rIn K false) (tVar 3) (tVar 2)) (by rfl) nd (pi_tup (pv 1)) (blkOk_by (own := [("table", 3)]) (N := NSl) (sc := defScope sShowsLine) (by decide +kernel))
            (fun _ _ _ _ _ => pg_name (i := 3) nd rfl (Or.inl rfl)) (fun _ _ _ _ _ => pts_nil) (fun _ _ _ _ _ => pe_cmpR op_in_seq (pv 3) (pv 2) (by rfl))) pa_nil)))) (pss_one (ps_ret pe_bl)) pss_nil)
      (pss_one (ps_ret (pe_call GL hr1 (by rfl) gL FL.kp bL .nil pass0 (pa_cons (pe_call GR hr (by rfl) gR FR.kp bR .nil pass0 (pa_cons (pv 0) (pa_cons (pv 1) pa_nil))) (pa_cons (pv 2) pa_nil)))))), ?_⟩
    have perm := lex_perm rfl x.nd (List.mem_of_find?_eq_some hp)
    have line : lineB ats p = true := List.find?_some hp
    have ltp : ∀ j ∈ p, j < ats.length := fun j hj => x.lt j (perm.mem_iff.mp hj)
    have l1 : (tabsV ats p).length = p.length := List.length_map ..
    have l2 : (tabsV ats T).length = T.length := List.length_map ..
    refine ⟨_, rfl, _, _, _, _, true, rfl, .ty "tuple", tyX_tup ho, kit_tt, _, rfl, ?_⟩
    refine iteF ⟨_, rfl, o, _, rfl, .inr ho, _, rfl, tl, _, rfl, .inr x.tl, rfl, _, rfl, ?_⟩
    rw [l1, l2, perm.length_eq, decide_eq_true rfl]
    refine iteF ?_
    refine ⟨_, rfl, tl, rfl, ⟨_, x.tl⟩, fun D nD => ?_⟩
    have six := x.six
    refine walk_tup (xs := tabsV ats T) (fun k H7 => Same H H7 ∧ H7 D = some (.lst ((List.replicate k true).map V.bl))) ⟨same_new nD, upd_same⟩ (fun k H7 _ h => seqT h.1 x.tl) ?_ ?_
    · rintro k y H7 hy ⟨sm, hD⟩
      obtain ⟨j, hj, rfl⟩ := tabs_at hy
      have hk := (List.getElem?_eq_some_iff.mp hj).1
      have hjT := List.mem_of_getElem? hj
      refine ⟨rfl, ?_⟩
      refine tyes ?_
      refine ⟨_, rfl, _, rfl, o, _, rfl, .inr (seqT sm ho), rfl, flat_tabs ats p, ?_⟩
      rw [if_neg Bool.false_ne_true, in_tabs x.dist (x.lt j hjT) ltp, decide_eq_true (perm.mem_iff.mpr hjT)]
      refine ⟨_, hD, ?_, fun b u e => ?_, ?_⟩
      · rw [List.length_map, List.length_replicate]
        exact small1000 (by omega)
      · rw [upd_ne (ne_of_none e nD)]
        exact sm _ _ e
      · rw [upd_same, List.replicate_succ', List.map_append]
        rfl
    · rintro H7 ⟨sm, hD⟩
      refine ⟨D, _, rfl, SqL.of hD, _, rfl, ?_⟩
      have e : (List.replicate (tabsV ats T).length true).all id = true := by
        rw [List.all_eq_true]
        intro b hb
        rw [List.eq_of_mem_replicate hb]
        rfl
      rw [e]
      refine iteF ?_
      obtain ⟨head, hq⟩ := x.q
      refine ⟨_, rfl, _, rfl, q, tl, head, ats, T, rfl, hq.same sm, x.few, x.dist, seqT sm x.tl, x.nd, x.lt, fun H8 R s8 nR rch => ?_⟩
      refine ⟨_, rfl, R, o, ats, T, p, rfl, rch, x.few, x.dist, x.nd, x.lt, seqT (sm.trans s8) ho, perm.nodup_iff.mpr x.nd, fun j hj => perm.mem_iff.mp hj, fun H9 s9 => ?_⟩
      rw [line]
      exact fin H9 (sm.trans (s8.trans s9))
end
end Cut
set_option Elab.async false
set_option linter.all false
set_option maxRecDepth 100000
set_option maxHeartbeats 8000000
namespace Cut
open PySem PySem.Spec PyProof.Rows L2
open RZ
/-! ### the judge of chains -/
theorem walk_zipU {K : PySem.W.Frag} {a b : Addr} {xs ys : List V} {H0 : Hp} {Done : Hp → Prop} {Body : Nat → V → Hp → (Hp → Prop) → Prop} (Pv : Nat → Hp → Prop) (h0 : Pv 0 H0) (hl : ∀ i H, Pv i H → SqT K H a xs ∧ SqT K H b ys)
    (turn : ∀ i x y H T, xs[i]? = some x → ys[i]? = some y → Pv i H → H T = none → Body i (.ref T) (upd H T (.tup [x, y])) (Pv (i + 1))) (fin : ∀ H, Pv (min xs.length ys.length) H → Done H) :
    ∃ W : Nat → Nat → Hp → Prop, (∃ m, W 0 m H0) ∧ ∀ i m H, W i m H →
      ((RZ.ItzT K a b).stop i H ∧ Done H) ∨ ((RZ.ItzT K a b).go i H ∧ ∃ Nx : Hp → Prop, (∀ H', Nx H' → ∃ m', m' < m ∧ W (i + 1) m' H') ∧ ∀ x H', (RZ.ItzT K a b).yld i H x H' → Body i x H' Nx) := by
  refine ⟨fun i m H => m + i = min xs.length ys.length ∧ Pv i H, ⟨_, rfl, h0⟩, fun i m H h => ?_⟩
  obtain ⟨em, p⟩ := h
  obtain ⟨qa, qb⟩ := hl i H p
  by_cases lt : i < min xs.length ys.length
  · have l1 : i < xs.length := by omega
    have l2 : i < ys.length := by omega
    refine .inr ⟨⟨xs, ys, xs[i], ys[i], qa, qb, List.getElem?_eq_getElem l1, List.getElem?_eq_getElem l2⟩, Pv (i + 1), fun H' p' => ⟨m - 1, by omega, by omega, p'⟩, fun x H' y => ?_⟩
    obtain ⟨T, u, v, rfl, hT, rfl, hu, hv⟩ := y
    exact turn i u v H T (hu xs qa) (hv ys qb) p hT
  · have e : i = min xs.length ys.length := by omega
    subst e
    exact .inl ⟨⟨xs, ys, qa, qb, by omega⟩, fin H p⟩
theorem steps_at {ats : List Atm} {W : List Str} : ∀ {C : List Nat}, stepsOk ats W C → ∀ {k a b : Nat}, C[k]? = some a → C[k + 1]? = some b → TW ats W a b
  | [], _, k, a, b, e, _ => by simp at e
  | [x], _, k, a, b, _, e => by simp at e
  | x :: y :: r, h, 0, a, b, e1, e2 => by
    cases e1
    cases e2
    exact h.1
  | x :: y :: r, h, k + 1, a, b, e1, e2 => steps_at (C := y :: r) h.2 e1 e2
abbrev NTb : List Str := ["names", "thing"]
theorem scTableOf : FnScope NTb ["names", "thing"] (defScope sIsTableOf) := ⟨rfl, rfl, rfl, by decide +kernel, rfl, by decide +kernel, by decide +kernel⟩
abbrev NIc : List Str := ["names", "thing", "turn", "start", "end", "past", "table", "one", "other"]
theorem scIsChainP : FnScope NIc ["names", "thing", "turn"] (defScope sIsChainP) := ⟨rfl, rfl, rfl, by decide +kernel, rfl, by decide +kernel, by decide +kernel⟩
section
variable {P : Program} {w : World} {K : PySem.W.Frag} {mg : Str → Option Value} {base : Heap}
def spTableOf (K : PySem.W.Frag) : Sp := fun vs H Q _ => ∃ (d : Addr) (ats : List Atm) (j : Nat), vs = [.ref d, .str (tabAt ats j)] ∧ OwnAt K H d ats ∧ (ats.map (·.1)).Nodup ∧ j < ats.length ∧ ∀ H', Same H H' → Q (.bl true) H'
theorem ok_tableOf {f : Addr} {fd : FuncData} (F : Fun K "_is_table_of" "_is_table_of" sIsTableOf f fd) (B : Blt mg) : FnOk P w K mg base CX0 1 f fd ["names", "thing"] (spTableOf K) := by
  refine F.ok scTableOf (fun vs H Q E h => ?_) (fun cdv A outer s H vs Q E hr h => ?_)
  · obtain ⟨d, ats, j, rfl, _⟩ := h
    rfl
  · obtain ⟨d, ats, j, rfl, own, dist, lj, fin⟩ := h
    have nd := scTableOf.nd
    have hu := hu_of hr
    refine ⟨_, pss_one (ps_ret (pe_and (pe_callB (id := "isinstance") (r := rIsi K) call_isi (by rfl) B.isi (by decide +kernel) (pa_cons (pv 1) (pa_cons (pe_bltn (v := .ty "str") (by rfl) B.str (by decide +kernel) rfl) pa_nil))) (pe_one (pe_cmp (pc_din hu (pv 1) (pv 0)))))), ?_⟩
    obtain ⟨l, dg, _⟩ := own.get dist lj
    refine ⟨_, rfl, _, _, _, _, true, rfl, .ty "str", .base (.str _), kit_ss, _, rfl, ?_⟩
    exact iteT ⟨_, rfl, _, rfl, d, _, rfl, dg, fin H (Same.refl H)⟩
def spIsChainP (K : PySem.W.Frag) : Sp := fun vs H Q _ => ∃ (d c t : Addr) (ats : List Atm) (u : Nat × Nat × Nat), vs = [.ref d, .ref c, .ref t] ∧ OwnAt K H d ats ∧ Few ats ∧ (ats.map (·.1)).Nodup ∧ ChAt K H ats (.ref c) u ∧ TrAt K H ats (.ref t) u ∧ u.1 < ats.length ∧ u.2.1 < ats.length ∧ u.2.2 < ats.length ∧
  ∀ H', Same H H' → Q (.bl true) H'
theorem ok_isChainP {f fB fT : Addr} {fd fdB fdT : FuncData} (F : Fun K "_is_chain" "_is_chain" sIsChainP f fd) (B : Blt mg) (mAll : mg "all" = none) (mZip : mg "zip" = none)
    (FB : Fun K "_is_table_of" "_is_table_of" sIsTableOf fB fdB) (bB : Binds K fdB ["names", "thing"] []) (gB : mg "_is_table_of" = some (.ref fB)) (GB : FnOk P w K mg base CX0 1 fB fdB ["names", "thing"] (spTableOf K))
    (FT : Fun K "_touch_past" "_touch_past" sTouchPast fT fdT) (bT : Binds K fdT ["names", "one", "other", "past"] []) (gT : mg "_touch_past" = some (.ref fT)) (GT : FnOk P w K mg base CX0 1 fT fdT ["names", "one", "other", "past"] (spTouchP K)) :
    FnOk P w K mg base CX0 2 f fd ["names", "thing", "turn"] (spIsChainP K) := by
  refine F.ok scIsChainP (fun vs H Q E h => ?_) (fun cdv A outer s H vs Q E hr h => ?_)
  · obtain ⟨d, c, t, ats, u, rfl, _⟩ := h
    rfl
  · obtain ⟨d, c, t, ats, u, rfl, own, few, dist, ch, tr, l1, l2, l3, fin⟩ := h
    obtain ⟨c', C, ec, hc, ok⟩ := ch
    cases ec
    obtain ⟨t', et, ht⟩ := tr
    cases et
    have nd := scIsChainP.nd
    have c6 := ok.few
    have clen : ∀ L : List Nat, (tabsV ats L).length = L.length := fun L => List.length_map ..
    refine ⟨_, pss_cons (ps_asg (pv 2) (pg_tup (by rfl) (pgs_cons (pg_name (i := 3) nd rfl (.inl rfl)) (pgs_cons (pg_name (i := 4) nd rfl (.inl rfl)) (pgs_cons (pg_name (i := 5) nd rfl (.inr rfl)) pgs_nil)))))
      (pss_cons (ps_if (PW.pt (pw_or (pt_not (pt_val (pe_callB (id := "isinstance") (r := rIsi K) call_isi (by rfl) B.isi (by decide +kernel) (pa_cons (pv 1) (pa_cons (pe_bltn (v := .ty "tuple") (by rfl) B.tuple (by decide +kernel) rfl) pa_nil)))))
          (pw_or (pt_not (pt_truth (pv 1) (fun _ => rfl))) (pw_or1 (pt_not (pt_val (pe_callB (id := "all") (r := rAll K) (cr_all (by rfl)) (by rfl) mAll (by decide +kernel) (pa_cons
            (pe_lc (own := [("table", 6)]) (g := gName 6) (tt := tYes) (te := tCall (spTableOf K) [] E0 (tCons (tVar 0) (tCons (tVar 6) tNil))) (by rfl) nd (pi_tup (pv 1)) (blkOk_by (own := [("table", 6)]) (N := NIc) (sc := defScope sIsChainP) (by decide +kernel))
              (fun _ _ _ _ _ => pg_name (i := 6) nd rfl (Or.inl rfl)) (fun _ _ _ _ _ => pts_nil) (fun _ _ _ _ _ => pe_call GB (hr.mono (by decide)) (by rfl) gB FB.kp bB .nil pass0 (pa_cons (pv 0) (pa_cons (pv 6) pa_nil)))) pa_nil))))))))
          (pss_one (ps_ret pe_bl)) pss_nil)
      (pss_cons (ps_if (PW.pt (pw_or (pt_cmpR op_ne (pe_ix ix_tup (pv 1) pe_int (fun _ _ => rfl)) (pv 3) (nomark _)) (pw_or1 (pt_cmpR op_ne (pe_ix ix_tup (pv 1) (pe_un un_neg pe_int) (fun _ _ => rfl)) (pv 4) (nomark _))))) (pss_one (ps_ret pe_bl)) pss_nil)
      (pss_one (ps_ret (pe_callB (id := "all") (r := rAll K) (cr_all (by rfl)) (by rfl) mAll (by decide +kernel) (pa_cons
        (pe_lc (own := [("one", 7), ("other", 8)]) (g := gTup K 2 (gCons (gName 7) (gCons (gName 8) gNil))) (tt := tYes) (te := tCall (spTouchP K) [] E0 (tCons (tVar 0) (tCons (tVar 7) (tCons (tVar 8) (tCons (tVar 5) tNil))))) (by rfl) nd
          (pi_zipA (by rfl) mZip (pa_cons (pv 1) (pa_cons (pe_slice sl_tupA (pv 1) (po_some pe_int) po_none) pa_nil))) (blkOk_by (own := [("one", 7), ("other", 8)]) (N := NIc) (sc := defScope sIsChainP) (by decide +kernel))
          (fun _ _ _ _ _ => pg_tup (by rfl) (pgs_cons (pg_name (i := 7) nd rfl (.inl rfl)) (pgs_cons (pg_name (i := 8) nd rfl (.inl rfl)) pgs_nil))) (fun _ _ _ _ _ => pts_nil)
          (fun _ _ _ _ _ => pe_call GT (hr.mono (by decide)) (by rfl) gT FT.kp bT .nil pass0 (pa_cons (pv 0) (pa_cons (pv 7) (pa_cons (pv 8) (pa_cons (pv 5) pa_nil)))))) pa_nil)))))), ?_⟩
    have cne : C ≠ [] := fun z => by
      have := ok.first
      rw [z] at this
      cases this
    have c0 : C[0]? = some u.1 := by rw [← List.head?_eq_getElem?]; exact ok.first
    have cL : C = C.dropLast ++ [u.2.1] := by
      have h := List.dropLast_concat_getLast cne
      have e := ok.last
      rw [List.getLast?_eq_some_getLast cne] at e
      rw [← Option.some.inj e]
      exact h.symm
    refine ⟨_, rfl, t, [.str (tabAt ats u.1), .str (tabAt ats u.2.1), .str (tabAt ats u.2.2)], rfl, ht, rfl, .str (tabAt ats u.1), [.str (tabAt ats u.2.1), .str (tabAt ats u.2.2)], rfl, .str (tabAt ats u.2.1), [.str (tabAt ats u.2.2)], rfl, .str (tabAt ats u.2.2), [], rfl, rfl, ?_⟩
    refine ⟨_, rfl, _, _, _, _, true, rfl, .ty "tuple", tyX_tup hc, kit_tt, _, rfl, ?_⟩
    refine iteF ⟨_, rfl, _, .inr (.inl ⟨_, hc, rfl⟩), ?_⟩
    have ce : (tabsV ats C).isEmpty = false := by
      rw [empty_tabs]
      cases hC : C with
      | nil => exact absurd hC cne
      | cons _ _ => rfl
    rw [ce]
    refine iteF ⟨_, rfl, c, rfl, ⟨_, hc⟩, fun D nD => ?_⟩
    refine walk_tup (xs := tabsV ats C) (fun k H7 => Same H H7 ∧ H7 D = some (.lst ((List.replicate k true).map V.bl))) ⟨same_new nD, upd_same⟩ (fun k H7 _ h => seqT h.1 hc) ?_ ?_
    · rintro k y H7 hy ⟨sm, hD⟩
      obtain ⟨j, hj, rfl⟩ := tabs_at hy
      have hk := (List.getElem?_eq_some_iff.mp hj).1
      refine ⟨rfl, ?_⟩
      refine tyes ?_
      refine ⟨_, rfl, _, rfl, d, ats, j, rfl, own.same sm, dist, ok.lt j (List.mem_of_getElem? hj), fun H8 s8 => ⟨_, s8 _ _ hD, ?_, fun b o e => ?_, ?_⟩⟩
      · rw [List.length_map, List.length_replicate]
        exact small1000 (by omega)
      · rw [upd_ne (ne_of_none e nD)]
        exact s8 _ _ (sm _ _ e)
      · rw [upd_same, List.replicate_succ', List.map_append]
        rfl
    · rintro H7 ⟨sm, hD⟩
      have alltrue : ∀ n : Nat, (List.replicate n true).all id = true := fun n => by
        rw [List.all_eq_true]
        intro b hb
        rw [List.eq_of_mem_replicate hb]
        rfl
      refine ⟨D, _, rfl, SqL.of hD, _, rfl, ?_⟩
      rw [alltrue]
      refine iteF ?_
      have hc7 := seqT sm hc
      have at0 : atI (tabsV ats C) 0 = some (.str (tabAt ats u.1)) := atI_nat (j := 0) (by unfold tabsV; rw [List.getElem?_map, c0]; rfl)
      have atL : atI (tabsV ats C) (-1) = some (.str (tabAt ats u.2.1)) := by
        rw [cL, tabs_snoc]
        exact atI_last _ _
      refine ⟨_, rfl, c, _, 0, _, rfl, rfl, hc7, at0, _, rfl, rfl, _, rfl, ?_⟩
      rw [decide_eq_true rfl]
      refine iteF ⟨_, rfl, 1, rfl, c, _, -1, _, rfl, rfl, hc7, atL, _, rfl, rfl, _, rfl, ?_⟩
      rw [decide_eq_true rfl]
      refine iteF ?_
      refine ⟨_, rfl, _, rfl, 1, rfl, c, _, rfl, hc7, fun hw => ?_, fun _ z nz => ?_⟩
      · exfalso
        have := hw.1
        rw [show ((1 : Int)) = ((1 : Nat) : Int) from rfl, HT.sIx_nat, clen] at this
        have : C.length ≠ 0 := fun z => cne (List.eq_nil_of_length_eq_zero z)
        omega
      rw [show ((1 : Int)) = ((1 : Nat) : Int) from rfl, cut_drop]
      have s8 := sm.trans (same_new (o := .tup ((tabsV ats C).drop 1)) nz)
      have hz : upd H7 z (.tup ((tabsV ats C).drop 1)) z = some (.tup ((tabsV ats C).drop 1)) := upd_same
      generalize upd H7 z (.tup ((tabsV ats C).drop 1)) = H8 at s8 hz ⊢
      refine ⟨c, z, _, _, rfl, .inr ⟨seqT s8 hc, SqT.of hz, fun D2 nD2 => ?_⟩⟩
      refine walk_zipU (xs := tabsV ats C) (ys := (tabsV ats C).drop 1) (fun k H9 => Same H8 H9 ∧ H9 D2 = some (.lst ((List.replicate k true).map V.bl))) ⟨same_new nD2, upd_same⟩ (fun k H9 h => ⟨seqT (s8.trans h.1) hc, SqT.of (h.1 _ _ hz)⟩) ?_ ?_
      · rintro k x y H9 T hx hy ⟨s9, hD9⟩ nT
        rw [List.getElem?_drop, Nat.add_comm] at hy
        obtain ⟨a, ha, rfl⟩ := tabs_at hx
        obtain ⟨b, hb, rfl⟩ := tabs_at hy
        have hk := (List.getElem?_eq_some_iff.mp ha).1
        have tw := steps_at ok.steps ha hb
        have s10 := s9.trans (same_new (o := .tup [.str (tabAt ats a), .str (tabAt ats b)]) nT)
        have hDa := at_new (u := .tup [.str (tabAt ats a), .str (tabAt ats b)]) hD9 nT
        have hT : upd H9 T (.tup [.str (tabAt ats a), .str (tabAt ats b)]) T = some (.tup [.str (tabAt ats a), .str (tabAt ats b)]) := upd_same
        generalize upd H9 T (.tup [.str (tabAt ats a), .str (tabAt ats b)]) = Ha at s10 hDa hT ⊢
        refine ⟨T, [.str (tabAt ats a), .str (tabAt ats b)], rfl, SqT.of hT, rfl, .str (tabAt ats a), [.str (tabAt ats b)], rfl, .str (tabAt ats b), [], rfl, rfl, rfl, ?_⟩
        refine tyes ?_
        refine ⟨_, rfl, _, rfl, _, rfl, _, rfl, d, ats, a, b, u.2.2, rfl, (own.same (s8.trans s10)).q, few, dist, ok.lt a (List.mem_of_getElem? ha), ok.lt b (List.mem_of_getElem? hb), l3, fun Hb sb => ?_⟩
        rw [twB_iff.mpr tw]
        refine ⟨_, sb _ _ hDa, ?_, fun b' o e => ?_, ?_⟩
        · rw [List.length_map, List.length_replicate]
          exact small1000 (by omega)
        · rw [upd_ne (ne_of_none e nD2)]
          exact sb _ _ (s10 _ _ e)
        · rw [upd_same, List.replicate_succ', List.map_append]
          rfl
      · rintro H9 ⟨s9, hD9⟩
        refine ⟨D2, _, rfl, SqL.of hD9, ?_⟩
        rw [alltrue]
        exact fin H9 (s8.trans s9)
end
end Cut
set_option Elab.async false
set_option linter.all false
set_option maxRecDepth 100000
set_option maxHeartbeats 8000000
namespace Cut
open PySem PySem.Spec PyProof.Rows L2
open RZ
/-! ### chains, as the law looks at them -/
theorem for_zipT {K : PySem.W.Frag} {a b : Addr} {xs ys : List V} {σ0 : L2.St} {H0 : Hp} {Done : L2.St → Hp → Prop} {Body : Nat → V → L2.St → Hp → (L2.St → Hp → Prop) → Prop} (Pv : Nat → L2.St → Hp → Prop) (h0 : Pv 0 σ0 H0) (hl : ∀ i σ H, Pv i σ H → SqT K H a xs ∧ SqT K H b ys)
    (turn : ∀ i x y σ H T, xs[i]? = some x → ys[i]? = some y → Pv i σ H → H T = none → Body i (.ref T) σ (upd H T (.tup [x, y])) (Pv (i + 1))) (fin : ∀ σ H, Pv (min xs.length ys.length) σ H → Done σ H) :
    ∃ W : Nat → Nat → L2.St → Hp → Prop, (∃ m, W 0 m σ0 H0) ∧ ∀ i m σ H, W i m σ H →
      ((RZ.ItzT K a b).stop i H ∧ Done σ H) ∨ ((RZ.ItzT K a b).go i H ∧ ∃ Nx : L2.St → Hp → Prop, (∀ σ' H', Nx σ' H' → ∃ m', m' < m ∧ W (i + 1) m' σ' H') ∧ ∀ x H', (RZ.ItzT K a b).yld i H x H' → Body i x σ H' Nx) := by
  refine ⟨fun i m σ H => m + i = min xs.length ys.length ∧ Pv i σ H, ⟨_, rfl, h0⟩, fun i m σ H h => ?_⟩
  obtain ⟨em, p⟩ := h
  obtain ⟨qa, qb⟩ := hl i σ H p
  by_cases lt : i < min xs.length ys.length
  · have l1 : i < xs.length := by omega
    have l2 : i < ys.length := by omega
    refine .inr ⟨⟨xs, ys, xs[i], ys[i], qa, qb, List.getElem?_eq_getElem l1, List.getElem?_eq_getElem l2⟩, Pv (i + 1), fun σ' H' p' => ⟨m - 1, by omega, by omega, p'⟩, fun x H' y => ?_⟩
    obtain ⟨T, u, v, rfl, hT, rfl, hu, hv⟩ := y
    exact turn i u v σ H T (hu xs qa) (hv ys qb) p hT
  · have e : i = min xs.length ys.length := by omega
    subst e
    exact .inl ⟨⟨xs, ys, qa, qb, by omega⟩, fin σ H p⟩
abbrev NLc : List Str := ["own", "chain", "one", "other", "past", "here", "there", "name"]
theorem scIsChain : FnScope NLc ["own", "chain", "one", "other", "past"] (defScope sIsChain) := ⟨rfl, rfl, rfl, by decide +kernel, rfl, by decide +kernel, by decide +kernel⟩
section
variable {P : Program} {w : World} {K : PySem.W.Frag} {mg : Str → Option Value} {base : Heap}
def spIsChain (K : PySem.W.Frag) : Sp := fun vs H Q _ => ∃ (d c : Addr) (ats : List Atm) (u : Nat × Nat × Nat), vs = [.ref d, .ref c, .str (tabAt ats u.1), .str (tabAt ats u.2.1), .str (tabAt ats u.2.2)] ∧ OwnAt K H d ats ∧ Few ats ∧ (ats.map (·.1)).Nodup ∧ TxOk ats ∧ ChAt K H ats (.ref c) u ∧ u.1 ≠ u.2.1 ∧ u.2.2 < ats.length ∧
  ∀ H', Same H H' → Q (.bl true) H'
theorem ok_isChain {f : Addr} {fd : FuncData} (F : Fun K "_law_is_chain" "_law_is_chain" sIsChain f fd) (B : Blt mg) (mZip : mg "zip" = none) : FnOk P w K mg base CX0 1 f fd ["own", "chain", "one", "other", "past"] (spIsChain K) := by
  refine F.ok scIsChain (fun vs H Q E h => ?_) (fun cdv A outer s H vs Q E hr h => ?_)
  · obtain ⟨d, c, ats, u, rfl, _⟩ := h
    rfl
  · obtain ⟨d, c, ats, u, rfl, own, few, dist, txok, ch, ne, l3, fin⟩ := h
    obtain ⟨c', C, ec, hc, ok⟩ := ch
    cases ec
    have nd := scIsChain.nd
    have hu := hu_of hr
    have c6 := ok.few
    have clen : ∀ L : List Nat, (tabsV ats L).length = L.length := fun L => List.length_map ..
    refine ⟨_, pss_cons (ps_if (PW.pt (pw_or (pt_not (pt_val (pe_callB (id := "isinstance") (r := rIsi K) call_isi (by rfl) B.isi (by decide +kernel) (pa_cons (pv 1) (pa_cons (pe_bltn (v := .ty "tuple") (by rfl) B.tuple (by decide +kernel) rfl) pa_nil)))))
          (pw_or (pt_cmpR op_lt (pe_callB call_len_seq (by rfl) B.len PySem.boot_len (pa_cons (pv 1) pa_nil)) pe_int (nomark _))
          (pw_or (pt_cmpR op_ne (pe_ix ix_tup (pv 1) pe_int (fun _ _ => rfl)) (pv 2) (nomark _)) (pw_or1 (pt_cmpR op_ne (pe_ix ix_tup (pv 1) (pe_un un_neg pe_int) (fun _ _ => rfl)) (pv 3) (nomark _))))))) (pss_one (ps_ret pe_bl)) pss_nil)
      (pss_cons (ps_for PassesOwn.never rfl (pi_zipA (by rfl) mZip (pa_cons (pv 1) (pa_cons (pe_slice sl_tupA (pv 1) (po_some pe_int) po_none) pa_nil))) (pg_tup (by rfl) (pgs_cons (pg_name (i := 5) nd rfl (.inl rfl)) (pgs_cons (pg_name (i := 6) nd rfl (.inr rfl)) pgs_nil)))
        (pss_one (ps_if (pt_cmpR (op_eqD hr.units) (pe_lc (own := [("name", 7)]) (g := gName 7) (tt := tAnd (tTest (tOp (rIn K false) (tVar 7) (tDGet (tVar 0) (tVar 6)))) (tTest (tOp (rIn K true) (tVar 7) (tDGet (tVar 0) (tVar 4))))) (te := tVar 7) (by rfl) nd (pi_list (pe_dget hu (pv 0) (pv 5) (fun _ _ => rfl))) (blkOk_by (own := [("name", 7)]) (N := NLc) (sc := defScope sIsChain) (by decide +kernel))
            (fun _ _ _ _ _ => pg_name (i := 7) nd rfl (Or.inl rfl)) (fun _ _ _ _ _ => pts_one (PW.pt (pw_and (pt_cmpR op_in_seq (pv 7) (pe_dget hu (pv 0) (pv 6) (fun _ _ => rfl)) (by rfl)) (pw_and1 (pt_cmpR op_notIn_seq (pv 7) (pe_dget hu (pv 0) (pv 4) (fun _ _ => rfl)) (by rfl)))))) (fun _ _ _ _ _ => pv 7)) (pe_lst pa_nil) (nomark _)) (pss_one (ps_ret pe_bl)) pss_nil)))
      (pss_one (ps_ret pe_bl))), ?_⟩
    have cne : C ≠ [] := fun z => by
      have := ok.first
      rw [z] at this
      cases this
    have c0 : C[0]? = some u.1 := by rw [← List.head?_eq_getElem?]; exact ok.first
    have cL : C = C.dropLast ++ [u.2.1] := by
      have h := List.dropLast_concat_getLast cne
      have e := ok.last
      rw [List.getLast?_eq_some_getLast cne] at e
      rw [← Option.some.inj e]
      exact h.symm
    have c2 : 2 ≤ C.length := by
      match hC : C with
      | [] => exact absurd rfl cne
      | [x] =>
        have h1 := ok.first
        have h2 := ok.last
        have e1 : x = u.1 := Option.some.inj h1
        have e2 : x = u.2.1 := Option.some.inj h2
        exact absurd (e1.symm.trans e2) ne
      | x :: y :: r => simp
    have at0 : atI (tabsV ats C) 0 = some (.str (tabAt ats u.1)) := atI_nat (j := 0) (by unfold tabsV; rw [List.getElem?_map, c0]; rfl)
    have atL : atI (tabsV ats C) (-1) = some (.str (tabAt ats u.2.1)) := by
      rw [cL, tabs_snoc]
      exact atI_last _ _
    refine ⟨_, rfl, _, _, _, _, true, rfl, .ty "tuple", tyX_tup hc, kit_tt, _, rfl, ?_⟩
    refine iteF ⟨_, rfl, c, _, rfl, .inr hc, _, _, rfl, rfl, _, rfl, ?_⟩
    rw [clen, decide_eq_false (by omega : ¬ (C.length : Int) < 2)]
    refine iteF ⟨_, rfl, c, _, 0, _, rfl, rfl, hc, at0, _, rfl, rfl, _, rfl, ?_⟩
    rw [decide_eq_true rfl]
    refine iteF ⟨_, rfl, 1, rfl, c, _, -1, _, rfl, rfl, hc, atL, _, rfl, rfl, _, rfl, ?_⟩
    rw [decide_eq_true rfl]
    refine iteF ?_
    refine ⟨_, rfl, _, rfl, 1, rfl, c, _, rfl, hc, fun hw => ?_, fun _ z nz => ?_⟩
    · exfalso
      have := hw.1
      rw [show ((1 : Int)) = ((1 : Nat) : Int) from rfl, HT.sIx_nat, clen] at this
      omega
    rw [show ((1 : Int)) = ((1 : Nat) : Int) from rfl, cut_drop]
    have s1 := same_new (H := H) (o := .tup ((tabsV ats C).drop 1)) nz
    have hz : upd H z (.tup ((tabsV ats C).drop 1)) z = some (.tup ((tabsV ats C).drop 1)) := upd_same
    generalize upd H z (.tup ((tabsV ats C).drop 1)) = H1 at s1 hz ⊢
    refine ⟨c, z, _, _, rfl, .inr ⟨seqT s1 hc, SqT.of hz, ?_⟩⟩
    refine for_zipT (xs := tabsV ats C) (ys := (tabsV ats C).drop 1) (fun k σ H9 => ∃ x5 x6 : Option V, σ = [some (.ref d), some (.ref c), some (.str (tabAt ats u.1)), some (.str (tabAt ats u.2.1)), some (.str (tabAt ats u.2.2)), x5, x6, none] ∧ Same H1 H9)
      ⟨none, none, rfl, Same.refl H1⟩ (fun k σ H9 h => by obtain ⟨_, _, _, sm⟩ := h; exact ⟨seqT (s1.trans sm) hc, SqT.of (sm _ _ hz)⟩) ?_ ?_
    · rintro k x y σ H9 T hx hy ⟨x5, x6, rfl, s9⟩ nT
      rw [List.getElem?_drop, Nat.add_comm] at hy
      obtain ⟨a, ha, rfl⟩ := tabs_at hx
      obtain ⟨b, hb, rfl⟩ := tabs_at hy
      have tw := steps_at ok.steps ha hb
      have la := ok.lt a (List.mem_of_getElem? ha)
      have lb := ok.lt b (List.mem_of_getElem? hb)
      have s10 := s9.trans (same_new (o := .tup [.str (tabAt ats a), .str (tabAt ats b)]) nT)
      have hT : upd H9 T (.tup [.str (tabAt ats a), .str (tabAt ats b)]) T = some (.tup [.str (tabAt ats a), .str (tabAt ats b)]) := upd_same
      generalize upd H9 T (.tup [.str (tabAt ats a), .str (tabAt ats b)]) = Ha at s10 hT ⊢
      refine ⟨T, [.str (tabAt ats a), .str (tabAt ats b)], rfl, SqT.of hT, rfl, .str (tabAt ats a), [.str (tabAt ats b)], rfl, .str (tabAt ats b), [], rfl, rfl, ?_⟩
      have sa := s1.trans s10
      obtain ⟨l1, dg1, sq1⟩ := (own.same sa).get dist la
      refine ⟨_, rfl, _, rfl, d, _, rfl, dg1, l1, rfl, ⟨_, sq1⟩, fun D nD => ?_⟩
      refine walk_list (xs := (namesAt ats a).map V.str) (fun q H7 => Same Ha H7 ∧ H7 D = some (.lst ((((namesAt ats a).take q).filter fun x => decide (x ∈ namesAt ats b) && !decide (x ∈ namesAt ats u.2.2)).map V.str))) ⟨same_new nD, upd_same⟩ (fun q H7 _ h => h.1.seq sq1) ?_ ?_
      · rintro q v H7 hv ⟨sm, hD⟩
        rw [List.getElem?_map] at hv
        obtain ⟨nm, hnm, rfl⟩ := Option.map_eq_some_iff.mp hv
        have ft := filter_take (fun x => decide (x ∈ namesAt ats b) && !decide (x ∈ namesAt ats u.2.2)) (namesAt ats a) q nm hnm
        have nf := names_few few a
        obtain ⟨l2, dg2, sq2⟩ := (own.same (sa.trans sm)).get dist lb
        obtain ⟨l3', dg3, sq3⟩ := (own.same (sa.trans sm)).get dist l3
        have stay : (decide (nm ∈ namesAt ats b) && !decide (nm ∈ namesAt ats u.2.2)) = false → Same Ha H7 ∧ H7 D = some (.lst ((((namesAt ats a).take (q + 1)).filter fun x => decide (x ∈ namesAt ats b) && !decide (x ∈ namesAt ats u.2.2)).map V.str)) := fun e => by
          rw [if_neg (by rw [e]; exact Bool.false_ne_true), List.append_nil] at ft
          refine ⟨sm, ?_⟩
          rw [ft]
          exact hD
        refine ⟨rfl, ?_⟩
        refine ⟨_, rfl, _, rfl, _, rfl, d, _, rfl, dg2, l2, _, rfl, .inl sq2, rfl, flat_strs' _, _, rfl, ?_⟩
        rw [if_neg Bool.false_ne_true, inV_str]
        by_cases i1 : nm ∈ namesAt ats b
        · rw [decide_eq_true i1]
          refine iteT ⟨_, rfl, _, rfl, _, rfl, d, _, rfl, dg3, l3', _, rfl, .inl sq3, rfl, flat_strs' _, _, rfl, ?_⟩
          rw [if_pos rfl, inV_str]
          by_cases i2 : nm ∈ namesAt ats u.2.2
          · rw [decide_eq_true i2]
            exact iteF (stay (by rw [decide_eq_true i2]; simp))
          · rw [decide_eq_false i2]
            have e : (decide (nm ∈ namesAt ats b) && !decide (nm ∈ namesAt ats u.2.2)) = true := by rw [decide_eq_true i1, decide_eq_false i2]; rfl
            rw [if_pos e] at ft
            refine iteT ⟨_, rfl, _, hD, ?_, fun b' o eo => ?_, ?_⟩
            · rw [List.length_map]
              refine small1000 (Nat.le_trans (List.length_filter_le _ _) ?_)
              rw [List.length_take]
              omega
            · rw [upd_ne (ne_of_none eo nD)]
              exact sm _ _ eo
            · rw [upd_same, ft, List.map_append]
              rfl
        · rw [decide_eq_false i1]
          exact iteF (iteF (stay (by rw [decide_eq_false i1]; rfl)))
      rintro H7 ⟨sm, hD⟩
      rw [List.length_map, List.take_length] at hD
      generalize hts : ((namesAt ats a).filter fun x => decide (x ∈ namesAt ats b) && !decide (x ∈ namesAt ats u.2.2)) = ts at hD
      refine ⟨Nat.zero_le _, fun e ne => ?_⟩
      have s9b := sm.trans (same_new (o := .lst []) ne)
      have hD9 := at_new (u := .lst []) hD ne
      have he9 : upd H7 e (.lst []) e = some (.lst []) := upd_same
      generalize upd H7 e (.lst []) = Hf at s9b hD9 he9 ⊢
      have tsok : ∀ x ∈ ts, PyData.strOk x = true := fun x hx => txok.at a x (by rw [← hts] at hx; exact (List.mem_filter.mp hx).1)
      have g := strs_layO ts tsok
      refine ⟨.list (ts.map .str), .list [], .lst (SqL.of hD9) (strs_dp ts), .lst (SqL.of he9) .nil, shaped_list g.1 (Nat.le_of_eq g.2) (by decide), by decide, _, rfl, ?_⟩
      rw [eqv_nil]
      have emp : (ts.map PyData.str).isEmpty = ts.isEmpty := by cases ts <;> rfl
      rw [emp]
      have full : ts.isEmpty = false := by
        obtain ⟨x, h1, h2, h3⟩ := tw
        cases he : ts.isEmpty with
        | false => rfl
        | true =>
          have m : x ∈ ts := by rw [← hts]; exact List.mem_filter.mpr ⟨h1, by rw [decide_eq_true h2, decide_eq_false h3]; rfl⟩
          rw [List.isEmpty_iff.mp he] at m
          simp at m
      rw [full]
      exact iteF ⟨_, _, rfl, s10.trans s9b⟩
    · rintro σ H9 ⟨x5, x6, rfl, s9⟩
      exact fin H9 (s1.trans s9)
end
end Cut
set_option Elab.async false
set_option linter.all false
set_option maxRecDepth 100000
set_option maxHeartbeats 8000000
namespace Cut
open PySem PySem.Spec PyProof.Rows L2
/-! ### need_line, where there is a line -/
abbrev NNl : List Str := ["question", "tables", "line"]
theorem scNeedL : FnScope NNl ["question", "tables"] (defScope sNeedLine) := ⟨rfl, rfl, rfl, by decide +kernel, rfl, by decide +kernel, by decide +kernel⟩
section
variable {P : Program} {w : World} {K : PySem.W.Frag} {mg : Str → Option Value} {base : Heap}
def spNeedL (K : PySem.W.Frag) : Sp := fun vs H Q _ => ∃ (q tl : Addr) (ats : List Atm) (T p : List Nat), vs = [.ref q, .ref tl] ∧ QTb K H q tl ats T ∧ lineN ats T = some p ∧
  ∀ (H' : Hp) (a : Addr), Same H H' → SqT K H' a (tabsV ats p) → Q (.ref a) H'
theorem ok_needL {f fL : Addr} {fd fdL : FuncData} (F : Fun K "need_line" "need_line" sNeedLine f fd)
    (FL : Fun K "line_of" "line_of" sLineOf fL fdL) (bL : Binds K fdL ["question", "tables"] []) (gL : mg "line_of" = some (.ref fL)) (GL : FnOk P w K mg base CX0 4 fL fdL ["question", "tables"] (spLineOf K)) :
    FnOk P w K mg base CX0 5 f fd ["question", "tables"] (spNeedL K) := by
  refine F.ok scNeedL (fun vs H Q E h => ?_) (fun cdv A outer s H vs Q E hr h => ?_)
  · obtain ⟨q, tl, ats, T, p, rfl, _⟩ := h
    rfl
  · obtain ⟨q, tl, ats, T, p, rfl, x, hp, fin⟩ := h
    have nd := scNeedL.nd
    refine ⟨_, pss_cons (ps_set (i := 2) nd rfl (.inl rfl) (pe_call GL hr (by rfl) gL FL.kp bL .nil pass0 (pa_cons (pv 0) (pa_cons (pv 1) pa_nil))))
      (pss_cons (ps_if (pt_cmp (pc_isN (pv 2))) (pss_one (ps_raise (W := fun _ _ _ _ => False) (t := fun _ _ _ => False) (by rfl) (fun u s' z => by obtain ⟨_, _, _, _, _, _, _, _, _, _, _, _, _, _, _, _, w⟩ := z; exact w.elim) (fun pins s σ H Q I h => h.elim))) pss_nil)
      (pss_one (ps_ret (pv 2)))), ?_⟩
    refine ⟨_, rfl, _, rfl, q, tl, ats, T, rfl, x, fun H1 v s1 ln => ?_⟩
    rw [hp] at ln
    obtain ⟨a, rfl, sa⟩ := ln
    exact ⟨_, rfl, _, rfl, iteF ⟨_, rfl, fin H1 a s1 sa⟩⟩
end
end Cut
set_option Elab.async false
set_option linter.all false
set_option maxRecDepth 100000
set_option maxHeartbeats 4000000
namespace Cut
open PySem PySem.Spec PyProof.Rows L2
/-! ### zip of a tuple and a list -/
def ItzM (K : PySem.W.Frag) (a b : Addr) (n1 n2 : Nat) : It :=
  ⟨fun i H => i ≤ n1 ∧ i ≤ n2 ∧ ∃ (xs ys : List V) (x y : V), SqT K H a xs ∧ SqL K H b ys ∧ xs.length = n1 ∧ ys.length = n2 ∧ xs[i]? = some x ∧ ys[i]? = some y,
    fun i H v H' => ∃ T x y, v = .ref T ∧ H T = none ∧ H' = upd H T (.tup [x, y]) ∧ (∀ xs, SqT K H a xs → xs[i]? = some x) ∧ ∀ ys, SqL K H b ys → ys[i]? = some y,
    fun i H => i ≤ n1 ∧ i ≤ n2 ∧ ∃ xs ys : List V, SqT K H a xs ∧ SqL K H b ys ∧ xs.length = n1 ∧ ys.length = n2 ∧ (i = n1 ∨ i = n2)⟩
theorem turn_zipM {P : Program} {w : World} {K : PySem.W.Frag} {elts : List Expr} {kk : Nat} {tpos : Pos} {a b z TI TO i1 i2 : Addr} {n1 n2 : Nat} (S : ZipSep2 z TI TO i1 i2 [i1, a] [i2, b]) (na : a ≠ i1) (nb : b ≠ i2) :
    Turn P w K (.Tuple elts kk tpos) (ItzM K a b n1 n2) [z, TI, TO, i1, i2] z (fun i h => IsZip h z TI TO .none ∧ IsTupOf2 h TI (.ref i1) (.ref i2) ∧ (∃ x y, IsTupOf2 h TO x y) ∧ h.IsTupleIter i1 a i ∧ h.IsListIter i2 b i) where
  mem := by simp
  obj := fun i h st c hc => by
    obtain ⟨hz, hTI, ⟨x, y, hTO⟩, ⟨o1, e1, _, d1⟩, ⟨o2, e2, _, d2⟩⟩ := st
    have e' : c = z ∨ c = TI ∨ c = TO ∨ c = i1 ∨ c = i2 := by simpa using hc
    rcases e' with q | q | q | q | q
    · rw [q]; exact ⟨_, hz, fun v q => nomatch q⟩
    · rw [q]; exact ⟨_, hTI, fun v q => nomatch q⟩
    · rw [q]; exact ⟨_, hTO, fun v q => nomatch q⟩
    · rw [q]; exact ⟨o1, e1, fun v q => by rw [d1] at q; cases q⟩
    · rw [q]; exact ⟨o2, e2, fun v q => by rw [d2] at q; cases q⟩
  keep := fun i h h' st k => by
    obtain ⟨hz, hTI, ⟨x, y, hTO⟩, h1, h2⟩ := st
    exact ⟨k z (by simp) _ hz, k TI (by simp) _ hTI, ⟨x, y, k TO (by simp) _ hTO⟩, h1.at fun o q => k i1 (by simp) o q, h2.at fun o q => k i2 (by simp) o q⟩
  item := by
    intro X hP hw hK hc i pins s σ H E I hf st hg
    subst hP hw hK
    obtain ⟨hz, hTI, ⟨x0, y0, hTO⟩, h1, h2⟩ := st
    obtain ⟨_, _, xs, ys, x, y, hqx, hqy, en1, en2, hx, hy⟩ := hg
    obtain ⟨its, rv, p, _⟩ := I.tuple hqx
    obtain ⟨its2, rv2, p2, _⟩ := I.list hqy
    obtain ⟨u, hu, ru⟩ := rv.get hx
    obtain ⟨u2, hu2, ru2⟩ := rv2.get hy
    have hzl : z < s.heap.objs.size := Heap.lt_size hz
    refine wpAny_pyNext_zipD2_item S (Draws.tuple (A := X.A.in1) (I.ok.hd hc) i1 a na its.toArray) (Draws.list (A := X.A.in1) (I.ok.hd hc) i2 b nb its2.toArray) hz hTI hTO ⟨h1, p⟩ ⟨h2, p2.isList⟩
      (by rw [List.size_toArray]; exact (List.getElem?_eq_some_iff.mp hu).1) (by rw [List.size_toArray]; exact (List.getElem?_eq_some_iff.mp hu2).1) fun v1 v2 h' tk hv1 hv2 z' TO' t1 t2 hT hsz hk => ?_
    have ev1 : v1 = u := by
      have hv1 : its.toArray[i]? = some v1 := hv1
      rw [List.getElem?_toArray, hu] at hv1
      exact (Option.some.inj hv1).symm
    have ev2 : v2 = u2 := by
      have hv2 : its2.toArray[i]? = some v2 := hv2
      rw [List.getElem?_toArray, hu2] at hv2
      exact (Option.some.inj hv2).symm
    subst ev1 ev2
    refine ⟨_, rfl, wpAny_letOwnedTupleGo_zip (s := { s with heap := h', toks := tk }) z' fun h'' z'' sb => ?_⟩
    have hT2 : h''.get? s.heap.objs.size = some { cls := .type "tuple", data := .seq #[v1, v2] } := (sb.2 _ (Nat.ne_of_gt hzl)).trans hT
    have new : ObjOk X.prog X.w (upd H s.heap.objs.size (.tup [x, y])) h'' s.heap.objs.size (.tup [x, y]) :=
      ⟨by show 2 ≤ sizeLine; decide, [v1, v2], .cons ru (.cons ru2 .nil), ⟨_, hT2, rfl, _, rfl⟩⟩
    have I1 : Inv X pins σ (upd H s.heap.objs.size (.tup [x, y])) { s with heap := h'', toks := tk } :=
      I.turnedNew (t' := tk) (ch := [z, TI, TO, i1, i2]) (fun c o hb q => (sb.2 c (fun q' => hb (by simp [q']))).trans (hk c o (fun q' => hb (by simp [q'])) (fun q' => hb (by simp [q'])) (fun q' => hb (by simp [q'])) (fun q' => hb (by simp [q'])) q)) hf (Nat.le_refl _) new
    refine ⟨.ref s.heap.objs.size, _, I1, rfl, ⟨_, x, y, rfl, I.hok.fresh (Nat.le_refl _), rfl, fun l hl => by rw [I.tuple_inj hl hqx]; exact hx, fun l hl => by rw [I.list_inj hl hqy]; exact hy⟩, ⟨z'', ?_, ⟨v1, v2, ?_⟩, ?_, ?_⟩, fun c hcm => ?_⟩
    · exact (sb.2 _ S.TIz).trans (hk _ _ S.TIz S.TITO S.TIi1 S.TIi2 hTI)
    · exact (sb.2 _ S.TOz).trans TO'
    · exact t1.1.at fun o q => (sb.2 _ S.zi1.symm).trans q
    · exact t2.1.at fun o q => (sb.2 _ S.zi2.symm).trans q
    · have hlt : c < s.heap.objs.size := by
        have e' : c = z ∨ c = TI ∨ c = TO ∨ c = i1 ∨ c = i2 := by simpa using hcm
        rcases e' with q | q | q | q | q
        · rw [q]; exact hzl
        · rw [q]; exact Heap.lt_size hTI
        · rw [q]; exact Heap.lt_size hTO
        · rw [q]; obtain ⟨_, e1, _⟩ := h1; exact Heap.lt_size e1
        · rw [q]; obtain ⟨_, e2, _⟩ := h2; exact Heap.lt_size e2
      rw [upd_ne (Nat.ne_of_lt hlt)]
      exact (hf c hcm).1
  done := by
    intro X hP hw hK hc i pins s σ H E I hf st hg
    subst hP hw hK
    obtain ⟨hz, hTI, ⟨x0, y0, hTO⟩, h1, h2⟩ := st
    obtain ⟨le1, le2, xs, ys, hqx, hqy, en1, en2, hend⟩ := hg
    obtain ⟨its, rv, p, _⟩ := I.tuple hqx
    obtain ⟨its2, rv2, p2, _⟩ := I.list hqy
    have l1 := rv.length
    have l2 := rv2.length
    exact wpAny_pyNext_zipD2_end S (Draws.tuple (A := X.A.in1) (I.ok.hd hc) i1 a na its.toArray) (Draws.list (A := X.A.in1) (I.ok.hd hc) i2 b nb its2.toArray) hz hTI hTO ⟨h1, p⟩ ⟨h2, p2.isList⟩
      (by rw [List.size_toArray]; omega) (by rw [List.size_toArray]; omega) (by rw [List.size_toArray, List.size_toArray]; omega) fun h' tk hk => ⟨rfl, I.turnedL (t' := tk) (ch := [z, TI, TO, i1, i2]) (fun c o hb q =>
      hk c o (fun q' => hb (by simp [q'])) (fun q' => hb (by simp [q'])) (fun q' => hb (by simp [q'])) (fun q' => hb (by simp [q'])) q) hf⟩
  self := fun A i s Q E st h => wpAny_pyIter_zip st.1 h
theorem sepM (n a b : Nat) (la : a < n) (lb : b < n) : ZipSep2 (n + 4) (n + 2) (n + 3) n (n + 1) [n, a] [n + 1, b] := by
  have h1 : a ≠ n := by omega
  have h2 : b ≠ n := by omega
  have h3 : ∀ k : Nat, ¬ n + k = a := fun k => by omega
  have h4 : ∀ k : Nat, ¬ n + k = b := fun k => by omega
  have h5 : ∀ j k : Nat, j ≠ k → ¬ n + j = n + k := fun j k h => by omega
  have h6 : ∀ k : Nat, k ≠ 0 → ¬ n + k = n := fun k h => by omega
  have h7 : ∀ k : Nat, k ≠ 0 → ¬ n = n + k := fun k h => by omega
  have h8 : ¬ n = b := fun z => h2 z.symm
  refine ⟨h5 2 4 (by decide), h5 3 4 (by decide), h5 2 3 (by decide), h6 2 (by decide), List.mem_cons_self, fun m => ?_, fun m => ?_, h5 2 1 (by decide), List.mem_cons_self, fun m => ?_, fun m => ?_, fun m => ?_, fun m => ?_⟩
  · rcases List.mem_cons.mp m with z | z
    · exact h6 4 (by decide) z
    · exact h3 4 (List.mem_singleton.mp z)
  · rcases List.mem_cons.mp m with z | z
    · exact h6 3 (by decide) z
    · exact h3 3 (List.mem_singleton.mp z)
  · rcases List.mem_cons.mp m with z | z
    · exact h5 4 1 (by decide) z
    · exact h4 4 (List.mem_singleton.mp z)
  · rcases List.mem_cons.mp m with z | z
    · exact h5 3 1 (by decide) z
    · exact h4 3 (List.mem_singleton.mp z)
  · rcases List.mem_cons.mp m with z | z
    · exact h7 1 (by decide) z
    · exact h8 (List.mem_singleton.mp z)
  · rcases List.mem_cons.mp m with z | z
    · exact h6 1 (by decide) z
    · exact h3 1 (List.mem_singleton.mp z)
def iZipM (K : PySem.W.Frag) (ta : TA) : TI := fun σ H R => ta σ H fun vs H1 => ∃ a b xs ys, vs = [.ref a, .ref b] ∧ SqT K H1 a xs ∧ SqL K H1 b ys ∧ R (ItzM K a b xs.length ys.length) H1
theorem pi_zipM {X : Cx} {e e2 : Expr} {ta : TA} {p pos tpos : Pos} {elts : List Expr} {kk : Nat} (hg : Gl X "zip") (hm : X.mg "zip" = none) (ha : PA X [e, e2] ta)
    (hs : starEach [e, e2] X.env = (false, eval e X.env) :: starEach [e2] X.env := by rfl) (hpl : (backTo pos (starEach [e2] X.env)).any (·.1) = false := by rfl) :
    PI X (.Tuple elts kk tpos) (.Call (.Name "zip" p) [e, e2] [] pos) (iZipM X.K ta) := by
  refine ⟨fun pins s σ H R I h => ?_⟩
  refine Call_ (ld_blt I hg hm PyProof.Rows.boot_zip (PyProof.Rows.callWith_type1 (thn (ha.run pos pins s σ H _ I h) fun us s1 ⟨vs, H1, I1, r1, q1⟩ => ?_) hs hpl))
  obtain ⟨a, b, xs, ys, ex, hqx, hqy, q⟩ := q1
  subst ex
  cases r1 with
  | cons r rr =>
    cases rr with
    | cons r' rr =>
      cases rr
      cases r
      cases r'
      obtain ⟨its, rv, p1, _⟩ := I1.tuple hqx
      obtain ⟨its2, rv2, p2, _⟩ := I1.list hqy
      obtain ⟨o1, ho1, _⟩ := id p1
      have la : a < s1.heap.objs.size := Heap.lt_size ho1
      have lb : b < s1.heap.objs.size := p2.lt
      refine zip_begins2 (begins_tuple a its.toArray) (begins_list b its2.toArray) p1 p2.isList fun h' hz hTI hTO h1 h2 hsz hk => wpAny_pyIter_zip hz ?_
      have I2 : Inv X pins σ H1 { s1 with heap := h' } := I1.kept (t' := s1.toks) hk
      have sep := sepM s1.heap.objs.size a b la lb
      refine ⟨s1.heap.objs.size + 4, [s1.heap.objs.size + 4, s1.heap.objs.size + 2, s1.heap.objs.size + 3, s1.heap.objs.size, s1.heap.objs.size + 1], _, _, H1, rfl, I2, turn_zipM sep (Nat.ne_of_lt la) (Nat.ne_of_lt (Nat.lt_succ_of_lt lb)), ⟨hz, hTI, ⟨_, _, hTO⟩, ⟨_, h1, rfl, rfl⟩, ⟨_, h2, rfl, rfl⟩⟩, fun c hcm => ?_, q⟩
      have e' : c = s1.heap.objs.size + 4 ∨ c = s1.heap.objs.size + 2 ∨ c = s1.heap.objs.size + 3 ∨ c = s1.heap.objs.size ∨ c = s1.heap.objs.size + 1 := by simpa using hcm
      have hle : s1.heap.objs.size ≤ c := by
        rcases e' with z | z | z | z | z
        · rw [z]; exact Nat.le_add_right _ _
        · rw [z]; exact Nat.le_add_right _ _
        · rw [z]; exact Nat.le_add_right _ _
        · rw [z]; exact Nat.le_refl _
        · rw [z]; exact Nat.le_add_right _ _
      exact I1.fpOk hle (I1.hok.fresh hle)
end Cut
set_option Elab.async false
set_option linter.all false
set_option maxRecDepth 100000
set_option maxHeartbeats 8000000
namespace Cut
open PySem PySem.Spec PyProof.Rows L2
/-! ### set(a tuple of keys) -/
section
variable {P : Program} {w : World} {A : Around} {E : Value → Shared → Prop} {s : Shared}
set_option maxHeartbeats 16000000 in
theorem call_set_keysT {l : Addr} {items : Array Value} (ks : List Key) {Q : Value → Shared → Prop} (hh : A.handled = none) (hl : s.heap.IsTuple l items) (len : items.size = ks.length) (val : ∀ (i : Nat) v, items[i]? = some v → ∃ k, ks[i]? = some k ∧ keyIs k v = true)
    (few : ks.length + 1 < scanBound)
    (done : ∀ (h' : Heap) (tk : Nat), SetM P w h' s.heap.objs.size (gathered ks) → (∀ b o, s.heap.get? b = some o → h'.get? b = some o) → Q (.ref s.heap.objs.size) { s with heap := h', toks := tk }) :
    wpAny (model P w) A (call (.type "set") [.ref l]) Q E s := by
  obtain ⟨c0, t0, z0⟩ := F.called_set.mro
  have z1' := F.called_set.made; have z2' := F.called_set.sub
  refine wpAny_call (codeAny_of_tree ?_)
  show wpAny _ _ (callAny (.type "set") _) _ _ _ ; refine wpAny_pure ⟨Code.quiet_builtin _ (by decide +kernel), codeAny_builtin F.entry_type_call ?_⟩
  rw [Around.under_plain (weight_type_call_type "set" [.ref l] []) rfl]
  have z3' := F.called_set.notType; have z4' := F.called_set.canCreate
  have z5' := F.typeCall_set_1 (.ref l)
  repeat (any_goals (first | assumption | wp_step))
  have b0 : bareSet w = { cls := .type "set", dict := none, data := .set #[] 0 (.fresh 0 0 (!w.params.followText "set-order")) } := rfl
  refine codeAny_mono (code_set_led1 (.ref l) (E := E) (Q₁ := fun obj s₁ => obj = .ref s.heap.objs.size ∧ s₁ = { s with heap := s.heap.push (bareSet w) }) ⟨rfl, rfl⟩) fun r s₁ hr => ?_
  match r, hr with
  | .ok (.ret obj), hr =>
    obtain ⟨rfl, rfl⟩ := hr
    have hS : (s.heap.push (bareSet w)).get? s.heap.objs.size = some (bareSet w) := Heap.get?_push_size _ rfl
    have isSet : Shared.TypeIs { s with heap := s.heap.push (bareSet w) } (.ref s.heap.objs.size) "set" := ⟨_, hS, rfl⟩
    have y1' := F.called_set.init.lookup; have y2' := F.called_set.init.bind (.ref s.heap.objs.size)
    repeat (any_goals (first | assumption | wp_step))
    refine codeAny_mono (codeAny_call_builtin (R := wants (fun r s₂ => r = .none ∧ ∃ h' tk, s₂ = { s with heap := h', toks := tk } ∧ SetM P w h' s.heap.objs.size (gathered ks) ∧ (∀ b o, s.heap.get? b = some o → h'.get? b = some o)) E) F.called_set.init.plain F.entry_set_init (check_set_init_1 isSet ?_)) fun r₂ s₂ fin₂ => ?_
    · obtain ⟨ol, held, ecls, nl, edat⟩ := hl
      obtain ⟨oc, od, oda, osl⟩ := ol
      simp only at ecls edat
      subst ecls; subst edat
      have held' : (s.heap.push (bareSet w)).get? l = some { cls := .type "tuple", dict := od, data := .seq items nl, slots := osl } := Heap.get?_push_of_some _ held
      have x1' := F.sub_tuple_set
      have x2' := F.sub_tuple_frozenset
      have x3' : (Value.type "tuple" == Value.type "dict") = false := by decide
      have hl1 : (s.heap.push (bareSet w)).IsTuple l items := ⟨_, held', rfl, nl, rfl⟩
      unfold Builtin.«set.__init__» noKeywords Builtin.Frozenset.updateFrom
      generalize ePI : pyIter = PI
      wp_walk
      subst ePI
      refine wpAny_pyIter_tuple hl1 ?_
      refine wpAny_bind (wpAny_runValue ?_)
      have low : l < s.heap.objs.size := Heap.lt_size held
      have calm3 : A.in1.in1.in1.handled = none := by simp [hh]
      have z1 : (s.heap.push (bareSet w)).objs.size = s.heap.objs.size + 1 := Heap.size_push ..
      have ne1 : l ≠ (s.heap.push (bareSet w)).objs.size := by rw [z1]; exact Nat.ne_of_lt (Nat.lt_succ_of_lt low)
      have out : s.heap.objs.size ∉ [(s.heap.push (bareSet w)).objs.size, l] := by
        rw [z1]
        simp only [List.mem_cons, List.mem_singleton, List.not_mem_nil, or_false, not_or]
        exact ⟨Nat.ne_of_lt (Nat.lt_succ_self _), Nat.ne_of_gt low⟩
      refine set_takes ((Walks.tuple calm3 _ l ne1 items).toS) s.heap.objs.size out ks len few val (items.size - 0) 0 _ (by omega) (Nat.zero_le _)
        ⟨⟨_, Heap.get?_push_size _ rfl, rfl, rfl⟩, (hl1.push _)⟩ ?start ?fin
      case start =>
        exact setM_bare (Heap.get?_push_of_some _ hS)
      case fin =>
        intro s' mv R
        obtain ⟨h', g2, d', tk', os'⟩ := s'
        have eg : g2 = s.gens := mv.gens
        have ed : d' = s.drawn := mv.drawn
        have eo : os' = s.os := mv.os
        subst eg; subst ed; subst eo
        show wpAny _ _ _ _ _ _
        refine wpAny_pure ?_
        show wpAny _ _ (ret Value.none) _ _ _
        refine wpAny_pure ⟨rfl, h', tk', rfl, R, fun b o e => ?_⟩
        have lt : b < s.heap.objs.size := Heap.lt_size e
        refine mv.heap b o ?_ (Heap.get?_push_of_some _ (Heap.get?_push_of_some _ e))
        simp only [List.mem_cons, List.mem_singleton, List.not_mem_nil, or_false, not_or]
        rw [z1]
        exact ⟨Nat.ne_of_lt lt, Nat.ne_of_lt (Nat.lt_succ_of_lt lt)⟩
    · match r₂, fin₂ with
      | .ok (.ret r), fin₂ =>
        obtain ⟨rfl, h', tk, rfl, R, kp⟩ := fin₂
        repeat (any_goals (first | assumption | wp_step))
        exact done _ _ R kp
      | .ok .next, fin₂ => exact fin₂.elim
      | .ok .brk, fin₂ => exact fin₂.elim
      | .ok .cont, fin₂ => exact fin₂.elim
      | .error e, fin₂ => exact fin₂
  | .ok .next, hr => exact hr.elim
  | .ok .brk, hr => exact hr.elim
  | .ok .cont, hr => exact hr.elim
  | .error e, hr => exact hr
end
section
variable {X : Cx}
/-- set(xs), xs a tuple of keys -/
def rSetOfT (K : PySem.W.Frag) (P : Program) (w : World) : List V → Hp → VK → Prop := fun xs H Q => ∃ (l : Addr) (ks : List Key), xs = [V.ref l] ∧ SqT K H l (ks.map kV) ∧ ks.length + 1 < scanBound ∧ ∀ p, H p = none → Q (.ref p) (upd H p (SetMO P w p (gathered ks)))
theorem cr_setOfT (hc : X.calm = true) : CallR X (.type "set") (rSetOfT X.K X.prog X.w) := by
  intro pins s σ H xs us Q I r h
  obtain ⟨l, ks, rfl, hl, few, q⟩ := h
  rw [Vals.ref1 r]
  obtain ⟨its, rv, pl, hz⟩ := I.tuple hl
  have no : H s.heap.objs.size = none := I.hok.fresh (Nat.le_refl _)
  obtain ⟨e1, e2⟩ := vals_keys (P := X.prog) (w := X.w) rv
  refine call_set_keysT (P := X.prog) (w := X.w) ks (I.ok.hd hc) pl (by simpa using e1) (fun i v hv => e2 i v (by simpa using hv)) few fun h' tk R kp => ?_
  exact ⟨.ref s.heap.objs.size, upd H s.heap.objs.size (SetMO X.prog X.w s.heap.objs.size (gathered ks)), I.laid (t' := tk) kp (Nat.le_refl _) (setM_new R), rfl, q _ no⟩
end
end Cut
set_option Elab.async false
set_option linter.all false
set_option maxRecDepth 100000
set_option maxHeartbeats 8000000
namespace Cut
open PySem PySem.Spec PyProof.Rows L2
/-! ### the judge of triads -/
theorem walk_zipM {K : PySem.W.Frag} {a b : Addr} {xs ys : List V} {H0 : Hp} {Done : Hp → Prop} {Body : Nat → V → Hp → (Hp → Prop) → Prop} (Pv : Nat → Hp → Prop) (h0 : Pv 0 H0) (hl : ∀ i H, Pv i H → SqT K H a xs ∧ SqL K H b ys)
    (turn : ∀ i x y H T, xs[i]? = some x → ys[i]? = some y → Pv i H → H T = none → Body i (.ref T) (upd H T (.tup [x, y])) (Pv (i + 1))) (fin : ∀ H, Pv (min xs.length ys.length) H → Done H) :
    ∃ W : Nat → Nat → Hp → Prop, (∃ m, W 0 m H0) ∧ ∀ i m H, W i m H →
      ((ItzM K a b xs.length ys.length).stop i H ∧ Done H) ∨ ((ItzM K a b xs.length ys.length).go i H ∧ ∃ Nx : Hp → Prop, (∀ H', Nx H' → ∃ m', m' < m ∧ W (i + 1) m' H') ∧ ∀ x H', (ItzM K a b xs.length ys.length).yld i H x H' → Body i x H' Nx) := by
  refine ⟨fun i m H => m + i = min xs.length ys.length ∧ Pv i H, ⟨_, rfl, h0⟩, fun i m H h => ?_⟩
  obtain ⟨em, p⟩ := h
  obtain ⟨qa, qb⟩ := hl i H p
  by_cases lt : i < min xs.length ys.length
  · have l1 : i < xs.length := by omega
    have l2 : i < ys.length := by omega
    refine .inr ⟨⟨by omega, by omega, xs, ys, xs[i], ys[i], qa, qb, rfl, rfl, List.getElem?_eq_getElem l1, List.getElem?_eq_getElem l2⟩, Pv (i + 1), fun H' p' => ⟨m - 1, by omega, by omega, p'⟩, fun x H' y => ?_⟩
    obtain ⟨T, u, v, rfl, hT, rfl, hu, hv⟩ := y
    exact turn i u v H T (hu xs qa) (hv ys qb) p hT
  · have e : i = min xs.length ys.length := by omega
    refine .inl ⟨⟨by omega, by omega, xs, ys, qa, qb, rfl, rfl, by omega⟩, ?_⟩
    subst e
    exact fin H p
theorem gathered_len {ks : List Key} (h : ks.Nodup) : (gathered ks).length = ks.length :=
  ((List.perm_ext_iff_of_nodup (gathered_nodup ks [] List.nodup_nil : (gathered ks).Nodup) h).mpr fun k => mem_gathered).length_eq
abbrev NSt : List Str := ["question", "tables", "thing", "triad", "chains", "table", "names", "turns", "chain", "turn"]
theorem scShowsT : FnScope NSt ["question", "tables", "thing"] (defScope sShowsTriad) := ⟨rfl, rfl, rfl, by decide +kernel, rfl, by decide +kernel, by decide +kernel⟩
section
variable {P : Program} {w : World} {K : PySem.W.Frag} {mg : Str → Option Value} {base : Heap}
def spShowsT (K : PySem.W.Frag) : Sp := fun vs H Q _ => ∃ (q tl a : Addr) (ats : List Atm) (T : List Nat) (x : Nat × Nat × Nat), vs = [.ref q, .ref tl, .ref a] ∧ QTb K H q tl ats T ∧ TdAt K H ats (.ref a) (some x) ∧ triN ats T = some x ∧
  ∀ H', Same H H' → Q (.bl true) H'
theorem ok_showsT {f fN fU fC : Addr} {fd fdN fdU fdC : FuncData} (F : Fun K "shows_triad" "shows_triad" sShowsTriad f fd) (B : Blt mg) (mAll : mg "all" = none) (mZip : mg "zip" = none)
    (FN : Fun K "names_by_table" "names_by_table" sNamesBy fN fdN) (bN : Binds K fdN ["question"] []) (gN : mg "names_by_table" = some (.ref fN)) (GN : FnOk P w K mg base CX0 2 fN fdN ["question"] (spOwn K))
    (FU : Fun K "_turns" "_turns" sTurns fU fdU) (bU : Binds K fdU ["triad"] []) (gU : mg "_turns" = some (.ref fU)) (GU : FnOk P w K mg base CX0 1 fU fdU ["triad"] (spTurns K))
    (FC : Fun K "_is_chain" "_is_chain" sIsChainP fC fdC) (bC : Binds K fdC ["names", "thing", "turn"] []) (gC : mg "_is_chain" = some (.ref fC)) (GC : FnOk P w K mg base CX0 2 fC fdC ["names", "thing", "turn"] (spIsChainP K)) :
    FnOk P w K mg base CX0 3 f fd ["question", "tables", "thing"] (spShowsT K) := by
  refine F.ok scShowsT (fun vs H Q E h => ?_) (fun cdv A outer s H vs Q E hr h => ?_)
  · obtain ⟨q, tl, a, ats, T, x, rfl, _⟩ := h
    rfl
  · obtain ⟨q, tl, a, ats, T, x, rfl, qt, td, ht, fin⟩ := h
    have nd := scShowsT.nd
    have hr1 : Room 1 _ := hr.mono (by decide)
    refine ⟨_, pss_cons (ps_if (PW.pt (pw_or (pt_not (pt_val (pe_callB (id := "isinstance") (r := rIsi K) call_isi (by rfl) B.isi (by decide +kernel) (pa_cons (pv 2) (pa_cons (pe_bltn (v := .ty "tuple") (by rfl) B.tuple (by decide +kernel) rfl) pa_nil)))))
          (pw_or1 (pt_cmpR op_ne (pe_callB call_len_seq (by rfl) B.len PySem.boot_len (pa_cons (pv 2) pa_nil)) pe_int (nomark _))))) (pss_one (ps_ret pe_bl)) pss_nil)
      (pss_cons (ps_asg (pv 2) (pg_tup (by rfl) (pgs_cons (pg_name (i := 3) nd rfl (.inl rfl)) (pgs_cons (pg_name (i := 4) nd rfl (.inl rfl)) pgs_nil))))
      (pss_cons (ps_if (PW.pt (pw_or (pt_not (pt_val (pe_callB (id := "isinstance") (r := rIsi K) call_isi (by rfl) B.isi (by decide +kernel) (pa_cons (pv 3) (pa_cons (pe_bltn (v := .ty "tuple") (by rfl) B.tuple (by decide +kernel) rfl) pa_nil)))))
          (pw_or (pt_cmpR op_ne (pe_callB call_len_seq (by rfl) B.len PySem.boot_len (pa_cons (pv 3) pa_nil)) pe_int (nomark _))
          (pw_or1 (pt_not (pt_val (pe_callB (id := "all") (r := rAll K) (cr_all (by rfl)) (by rfl) mAll (by decide +kernel) (pa_cons (pe_lc (own := [("table", 5)]) (g := gName 5) (tt := tYes) (te := tOp (rIn K false) (tVar 5) (tVar 1)) (by rfl) nd (pi_tup (pv 3)) (blkOk_by (own := [("table", 5)]) (N := NSt) (sc := defScope sShowsTriad) (by decide +kernel))
            (fun _ _ _ _ _ => pg_name (i := 5) nd rfl (Or.inl rfl)) (fun _ _ _ _ _ => pts_nil) (fun _ _ _ _ _ => pe_cmpR op_in_seq (pv 5) (pv 1) (by rfl))) pa_nil)))))))) (pss_one (ps_ret pe_bl)) pss_nil)
      (pss_cons (ps_if (PW.pt (pw_or (pt_cmpR op_ne (pe_callB (id := "len") (r := rLenM P w) cr_lenM (by rfl) B.len PySem.boot_len (pa_cons (pe_callTy (T := "set") (r := rSetOfT K P w) (cr_setOfT (by rfl)) (by rfl) B.set (by decide +kernel) (pa_cons (pv 3) pa_nil)) pa_nil)) pe_int (nomark _))
          (pw_or (pt_not (pt_val (pe_callB (id := "isinstance") (r := rIsi K) call_isi (by rfl) B.isi (by decide +kernel) (pa_cons (pv 4) (pa_cons (pe_bltn (v := .ty "tuple") (by rfl) B.tuple (by decide +kernel) rfl) pa_nil)))))
          (pw_or1 (pt_cmpR op_ne (pe_callB call_len_seq (by rfl) B.len PySem.boot_len (pa_cons (pv 4) pa_nil)) pe_int (nomark _)))))) (pss_one (ps_ret pe_bl)) pss_nil)
      (pss_cons (ps_set (i := 6) nd rfl (.inr rfl) (pe_call GN (hr.mono (by decide)) (by rfl) gN FN.kp bN .nil pass0 (pa_cons (pv 0) pa_nil)))
      (pss_cons (ps_set (i := 7) nd rfl (.inl rfl) (pe_call GU hr1 (by rfl) gU FU.kp bU .nil pass0 (pa_cons (pv 3) pa_nil)))
      (pss_one (ps_ret (pe_callB (id := "all") (r := rAll K) (cr_all (by rfl)) (by rfl) mAll (by decide +kernel) (pa_cons
        (pe_lc (own := [("chain", 8), ("turn", 9)]) (g := gTup K 2 (gCons (gName 8) (gCons (gName 9) gNil))) (tt := tYes) (te := tCall (spIsChainP K) [] E0 (tCons (tVar 6) (tCons (tVar 8) (tCons (tVar 9) tNil)))) (by rfl) nd
          (pi_zipM (by rfl) mZip (pa_cons (pv 4) (pa_cons (pv 7) pa_nil))) (blkOk_by (own := [("chain", 8), ("turn", 9)]) (N := NSt) (sc := defScope sShowsTriad) (by decide +kernel))
          (fun _ _ _ _ _ => pg_tup (by rfl) (pgs_cons (pg_name (i := 8) nd rfl (.inl rfl)) (pgs_cons (pg_name (i := 9) nd rfl (.inl rfl)) pgs_nil))) (fun _ _ _ _ _ => pts_nil)
          (fun _ _ _ _ _ => pe_call GC hr (by rfl) gC FC.kp bC .nil pass0 (pa_cons (pv 6) (pa_cons (pv 8) (pa_cons (pv 9) pa_nil))))) pa_nil))))))))), ?_⟩
    obtain ⟨a', tr, c, cs, ea, ha, htr, hc, hcs⟩ := td
    cases ea
    obtain ⟨tr', etr, ht3⟩ := htr
    cases etr
    have lcs : cs.length = 3 := paired_len hcs
    have sub := comb3_mem.mp (show (x.1, x.2.1, x.2.2) ∈ comb3 T from List.mem_of_find?_eq_some ht)
    have m1 : x.1 ∈ T := sub.subset (by simp)
    have m2 : x.2.1 ∈ T := sub.subset (by simp)
    have m3 : x.2.2 ∈ T := sub.subset (by simp)
    have nd3 := sub.nodup qt.nd
    have lt := qt.lt
    have ht3' : SqT K H tr (tabsV ats [x.1, x.2.1, x.2.2]) := ht3
    have alltrue : ∀ n : Nat, (List.replicate n true).all id = true := fun n => by
      rw [List.all_eq_true]
      intro b hb
      rw [List.eq_of_mem_replicate hb]
      rfl
    refine ⟨_, rfl, _, _, _, _, true, rfl, .ty "tuple", tyX_tup ha, kit_tt, _, rfl, ?_⟩
    refine iteF ⟨_, rfl, a, _, rfl, .inr ha, rfl, _, rfl, ?_⟩
    refine iteF ?_
    refine ⟨_, rfl, a, [.ref tr, .ref c], rfl, ha, rfl, .ref tr, [.ref c], rfl, .ref c, [], rfl, rfl, ?_⟩
    refine ⟨_, rfl, _, _, _, _, true, rfl, .ty "tuple", tyX_tup ht3, kit_tt, _, rfl, ?_⟩
    refine iteF ⟨_, rfl, tr, _, rfl, .inr ht3, rfl, _, rfl, ?_⟩
    refine iteF ⟨_, rfl, tr, rfl, ⟨_, ht3⟩, fun D nD => ?_⟩
    refine walk_tup (xs := tabsV ats [x.1, x.2.1, x.2.2]) (fun k H7 => Same H H7 ∧ H7 D = some (.lst ((List.replicate k true).map V.bl))) ⟨same_new nD, upd_same⟩ (fun k H7 _ h => seqT h.1 ht3') ?_ ?_
    · rintro k y H7 hy ⟨sm, hD⟩
      obtain ⟨j, hj, rfl⟩ := tabs_at hy
      have hk : k < 3 := (List.getElem?_eq_some_iff.mp hj).1
      have hjT : j ∈ T := sub.subset (List.mem_of_getElem? hj)
      refine ⟨rfl, ?_⟩
      refine tyes ?_
      refine ⟨_, rfl, _, rfl, tl, _, rfl, .inr (seqT sm qt.tl), rfl, flat_tabs ats T, ?_⟩
      rw [if_neg Bool.false_ne_true, in_tabs qt.dist (lt j hjT) lt, decide_eq_true hjT]
      refine ⟨_, hD, ?_, fun b u e => ?_, ?_⟩
      · rw [List.length_map, List.length_replicate]
        exact small1000 (by omega)
      · rw [upd_ne (ne_of_none e nD)]
        exact sm _ _ e
      · rw [upd_same, List.replicate_succ', List.map_append]
        rfl
    rintro H7 ⟨sm, hD⟩
    refine ⟨D, _, rfl, SqL.of hD, _, rfl, ?_⟩
    rw [alltrue]
    refine iteF ?_
    have keys : SqT K H7 tr (([.inr (tabAt ats x.1), .inr (tabAt ats x.2.1), .inr (tabAt ats x.2.2)] : List Key).map kV) := seqT sm ht3
    refine ⟨_, rfl, tr, _, rfl, keys, by show 3 + 1 < scanBound; decide, fun S nS => ?_⟩
    have s1 := sm.trans (same_new (o := SetMO P w S (gathered ([.inr (tabAt ats x.1), .inr (tabAt ats x.2.1), .inr (tabAt ats x.2.2)] : List Key))) nS)
    have hS : upd H7 S (SetMO P w S (gathered ([.inr (tabAt ats x.1), .inr (tabAt ats x.2.1), .inr (tabAt ats x.2.2)] : List Key))) S = some (SetMO P w S (gathered ([.inr (tabAt ats x.1), .inr (tabAt ats x.2.1), .inr (tabAt ats x.2.2)] : List Key))) := upd_same
    generalize upd H7 S (SetMO P w S (gathered ([.inr (tabAt ats x.1), .inr (tabAt ats x.2.1), .inr (tabAt ats x.2.2)] : List Key))) = H8 at s1 hS ⊢
    have ndk : ([.inr (tabAt ats x.1), .inr (tabAt ats x.2.1), .inr (tabAt ats x.2.2)] : List Key).Nodup := by
      have inj : ∀ {i j : Nat}, i ∈ T → j ∈ T → (Sum.inr (tabAt ats i) : Key) = .inr (tabAt ats j) → i = j := fun hi hj e => tab_inj qt.dist (lt _ hi) (lt _ hj) (Sum.inr.inj e)
      simp only [List.nodup_cons, List.mem_cons, List.not_mem_nil, or_false, not_or, List.nodup_nil, and_true, not_false_eq_true] at nd3 ⊢
      obtain ⟨⟨ab, ac⟩, bc⟩ := nd3
      exact ⟨⟨fun e => ab (inj m1 m2 e), fun e => ac (inj m1 m3 e)⟩, fun e => bc (inj m2 m3 e)⟩
    refine ⟨S, _, rfl, hS, rfl, _, rfl, ?_⟩
    rw [gathered_len ndk]
    refine iteF ⟨_, rfl, _, _, _, _, true, rfl, .ty "tuple", tyX_tup (seqT s1 hc), kit_tt, _, rfl, ?_⟩
    refine iteF ⟨_, rfl, c, _, rfl, .inr (seqT s1 hc), rfl, _, rfl, ?_⟩
    rw [lcs]
    refine iteF ?_
    obtain ⟨head, hq⟩ := qt.q
    refine ⟨_, rfl, q, head, ats, rfl, hq.same s1, qt.few, qt.dist, fun H9 d s9 nd9 own => ?_⟩
    have s19 := s1.trans s9
    refine ⟨_, rfl, tr, ats, x, rfl, ⟨tr, rfl, seqT s19 ht3⟩, fun Ha l us sa nl hl hus => ?_⟩
    have sA := s19.trans sa
    have lus : us.length = 3 := paired_len hus
    refine ⟨_, rfl, _, rfl, c, l, _, _, rfl, seqT sA hc, SqL.of hl, fun D2 nD2 => ?_⟩
    refine walk_zipM (xs := cs) (ys := us) (fun k H7 => Same Ha H7 ∧ H7 D2 = some (.lst ((List.replicate k true).map V.bl))) ⟨same_new nD2, upd_same⟩ (fun k H7 h => ⟨seqT (sA.trans h.1) hc, SqL.of (h.1 _ _ hl)⟩) ?_ ?_
    · rintro k v v2 H7' Tn hv hv2 ⟨sm7, hD7⟩ nT
      obtain ⟨u, hu7, ch⟩ := paired_get hcs hv
      obtain ⟨u', hu7', tru⟩ := paired_get hus hv2
      rw [hu7] at hu7'
      cases hu7'
      have hk : k < 3 := (List.getElem?_eq_some_iff.mp hu7).1
      obtain ⟨q1, q2, q3⟩ := turns_in m1 m2 m3 u (List.mem_of_getElem? hu7)
      obtain ⟨ca, C, rfl, hC, okC⟩ := ch
      obtain ⟨ta, rfl, hta⟩ := tru
      have s10 := sm7.trans (same_new (o := .tup [.ref ca, .ref ta]) nT)
      have hDa := at_new (u := .tup [.ref ca, .ref ta]) hD7 nT
      have hT : upd H7' Tn (.tup [.ref ca, .ref ta]) Tn = some (.tup [.ref ca, .ref ta]) := upd_same
      generalize upd H7' Tn (.tup [.ref ca, .ref ta]) = Hb at s10 hDa hT ⊢
      refine ⟨Tn, [.ref ca, .ref ta], rfl, SqT.of hT, rfl, .ref ca, [.ref ta], rfl, .ref ta, [], rfl, rfl, rfl, ?_⟩
      refine tyes ?_
      refine ⟨_, rfl, _, rfl, _, rfl, d, ca, ta, ats, u, rfl, own.same (sa.trans s10), qt.few, qt.dist, ⟨ca, C, rfl, seqT (sA.trans s10) hC, okC⟩, ⟨ta, rfl, seqT s10 hta⟩, lt _ q1, lt _ q2, lt _ q3, fun Hc sc => ?_⟩
      refine ⟨_, sc _ _ hDa, ?_, fun b' o e => ?_, ?_⟩
      · rw [List.length_map, List.length_replicate]
        exact small1000 (by omega)
      · rw [upd_ne (ne_of_none e nD2)]
        exact sc _ _ (s10 _ _ e)
      · rw [upd_same, List.replicate_succ', List.map_append]
        rfl
    · rintro H7' ⟨sm7, hD7⟩
      refine ⟨D2, _, rfl, SqL.of hD7, ?_⟩
      rw [alltrue]
      exact fin H7' (sA.trans sm7)
end
end Cut
set_option Elab.async false
set_option linter.all false
set_option maxRecDepth 100000
set_option maxHeartbeats 4000000
namespace Cut
open PySem PySem.Spec PyProof.Rows L2
/-! ### an exception that is caught and kept behind its suite -/
/-- at a: a caught exception of the class cls, its own dict d -/
def ExT (a : Addr) (cls : Value) (d : Option Addr) : HO := .ext fun h => ∃ (oe : Obj) (vs : Array Value), h.get? a = some oe ∧ Zc cls d oe ∧ oe.data = .fields vs
theorem exT_ok {P : Program} {w : World} {H : Hp} {h : Heap} {a : Addr} {cls : Value} {d : Option Addr} {oe : Obj} {vs : Array Value} (e : h.get? a = some oe) (z : Zc cls d oe) (f : oe.data = .fields vs) : ObjOk P w H h a (ExT a cls d) :=
  ⟨⟨oe, vs, e, z, f⟩, ⟨oe, e⟩, fun _ _ ⟨o, v, q, r⟩ k => ⟨o, v, k o q, r⟩⟩
theorem exT_at {P : Program} {w : World} {H : Hp} {h : Heap} {a : Addr} {cls : Value} {d : Option Addr} (hok : HOk P w H h) (he : H a = some (ExT a cls d)) : ∃ (oe : Obj) (vs : Array Value), h.get? a = some oe ∧ Zc cls d oe ∧ oe.data = .fields vs := by
  have x : ObjOk P w H h a (.ext fun h => ∃ (oe : Obj) (vs : Array Value), h.get? a = some oe ∧ Zc cls d oe ∧ oe.data = .fields vs) := hok a _ he
  exact x.1
section
variable {X : Cx} {pins : List (Addr × Obj)} {σ : L2.St} {H : Hp} {s : Shared}
theorem Inv_track {a : Addr} {cls : Value} {d : Option Addr} {oe : Obj} {vs : Array Value} (I : Inv X pins σ H s) (e : s.heap.get? a = some oe) (z : Zc cls d oe) (f : oe.data = .fields vs) (na : H a = none) (n0 : X.s_0.heap.get? a = none) (nL : a ≠ X.env.locals) (np : ∀ p ∈ X.pn ++ pins, p.1 ≠ a) :
    Inv X pins σ (upd H a (ExT a cls d)) s := by
  have ne0 : ∀ b o, X.s_0.heap.get? b = some o → b ≠ a := fun b o q r => by rw [r, n0] at q; cases q
  refine ⟨I.ok, I.os, I.bare, ⟨fun b o q n hb hx => I.base.keep b o q n hb hx, fun b o q n hb hx => I.base.slot b o q n hb hx, fun b o q n hx => ?_, fun b o q hx => I.base.there b o q hx, fun b xs q => ?_, fun b o u q => ?_, fun b ps q => ?_⟩, I.loc, I.cell, ?_, fun x c q => ?_, fun p hp => ?_, fun b u q => ?_, I.len⟩
  · rw [upd_ne (ne0 b o q)]
    exact I.base.free b o q n hx
  · have y := I.base.tups b xs q
    rw [upd_ne (ne_of_none y na)]
    exact y
  · have y := I.base.frzs b o u q
    rw [upd_ne (ne_of_none y na)]
    exact y
  · obtain ⟨m, y⟩ := I.base.tbls b ps q
    exact ⟨m, by rw [upd_ne (ne_of_none y na)]; exact y⟩
  · rw [upd_ne (Ne.symm nL)]
    exact I.free
  · obtain ⟨v, o, ho, hd⟩ := I.cell x c q
    rw [upd_ne (fun r => by
      rw [r, e] at ho
      cases ho
      rw [f] at hd
      cases hd)]
    exact I.freeC x c q
  · obtain ⟨h1, h2, h3⟩ := I.pin p hp
    exact ⟨h1, by rw [upd_ne (np p hp)]; exact h2, h3⟩
  · by_cases hb : b = a
    · subst hb
      rw [upd_same] at q
      cases q
      exact exT_ok e z f
    · rw [upd_ne hb] at q
      exact (I.hok b u q).stay (fun c v _ r => r) (fun c r => by rw [upd_ne (ne_of_none r na)]; exact r) fun c xs r => by rw [upd_ne (ne_of_none r na)]; exact r
theorem Inv_suiteT (I : Inv X pins σ H s) (a : Addr) : Inv (X.suite a (X.pn ++ pins)) [] σ H s :=
  ⟨I.ok.suite _ _, I.os, I.bare, I.base, I.loc, I.cell, I.free, I.freeC, fun p hp => I.pin p (by rw [List.append_nil] at hp; exact hp), I.hok, I.len⟩
theorem Inv_unsuiteT {a : Addr} {pn' : List (Addr × Obj)} (I : Inv (X.suite a (X.pn ++ pins)) pn' σ H s) (ok : X.Ok) : Inv X pins σ H s :=
  ⟨ok, I.os, I.bare, I.base, I.loc, I.cell, I.free, I.freeC, fun p hp => I.pin p (List.mem_append_left _ hp), I.hok, I.len⟩
end
/-- what the clause 'except x as n' wishes, the exception tracked from then on -/
def wAsT (K : PySem.W.Frag) (c : Value) (i : Nat) (ts : Addr → Value → Option Addr → TS) (Wout : WX) (D : Ends) : WX := fun cls d σ H =>
  ∃ b, PySem.W.exmOne K cls c = some b ∧ (b = true → ∀ a, H a = none → ts a cls d { nx := fun σ' H' => D.nx (σ'.set i none) H', rt := D.rt, bk := fun σ' H' => D.bk (σ'.set i none) H', ct := fun σ' H' => D.ct (σ'.set i none) H' } (σ.set i (some (.ref a))) (upd H a (ExT a cls d))) ∧
    (b = false → Wout cls d σ H)
section
variable {X : Cx} {x n : Str} {c : Value} {i : Nat} {body suite : List Stmt} {b₀ : Stmt} {np pos pos' : Pos} {tb : WX → TS} {ts : Addr → Value → Option Addr → TS} {Wout : WX}
theorem ps_try_asT (hex : X.ex = []) (hs : X.stack = X.env :: X.outer) (hf : X.env.frame = some X.env.locals) (hN : X.N.Nodup) (hi : X.N[i]? = some n) (hln : X.env.kindOf n = some .local) (hc : Names X x c) (tk : Takes X Wout)
    (hb : ∀ (W : WX) (pn : List (Addr × Obj)) (xe : Value → Shared → Prop), Takes (X.tr pn xe) W → PassesOwn (model X.prog X.w) X.A X.env xe → PSs (X.tr pn xe) body (tb W))
    (hsu : ∀ (a : Addr) (cls : Value) (d : Option Addr) (pn : List (Addr × Obj)), PSs (X.suite a pn) (b₀ :: suite) (ts a cls d)) :
    PS X (.Try body [.ExceptHandler (some (.Name x np)) (some n) (b₀ :: suite) pos'] [] [] pos) (fun D σ H => tb (wAsT X.K c i ts Wout D) D σ H) := by
  refine ⟨fun pins s σ H D I h => ?_⟩
  have ok := I.ok
  have hfr : X.A.frames = some (X.env :: X.outer) := by rw [ok.frames, hs]
  have hloc : Loc X.env.scope n := .inl hln
  refine wpAny_Try_except ?_
  refine wpAny_mono ((hb (wAsT X.K c i ts Wout D) (X.pn ++ pins) (fun e s₁ => wpAny (model X.prog X.w) X.A (noteFrame e X.env) (fun _ s₂ => wpAny (model X.prog X.w) X.A (setFlight e none) (fun _ s₃ =>
    wpAny (model X.prog X.w) X.A (handleBy e X.env [.ExceptHandler (some (.Name x np)) (some n) (b₀ :: suite) pos']) (SP X pins D) X.xe s₃) X.xe s₂) X.xe s₁) (fun u s' xx => ?_) PassesOwn.looking).run [] s σ H D (I.toTry _) h) (fun f s1 hsp => ?_) (fun e s1 he => he)
  · -- the catch
    obtain ⟨a, B, sI, pins', σ', H', cls, d, rfl, J', nb, up, sky, na, os, ag, b, hb1, hyes, hno⟩ := xx
    have J : Inv X pins σ' H' sI := J'.ofTry ok
    have sky' : Sky B (X.env :: X.outer) a (Zc cls d) X.env.locals s'.heap := by rw [← hs]; exact sky
    show wpAny (model X.prog X.w) X.A (noteFrame (.ref a) X.env) _ _ _
    refine Sky.land Zc.steady hfr hf sky' fun h3 fl3 up3 => ?_
    have J3 : Inv X pins σ' H' { s' with heap := h3 } := J.landed nb fl3.1 (up.trans up3) os ag
    obtain ⟨oe3, vs3, he3, hz3, hd3⟩ := fl3.there
    have notFr : ∀ {h : Heap} {o : Obj} {vs : Array Value}, h.FunFrames B (X.env :: X.outer) → h.get? a = some o → o.data = .fields vs → a ∉ frs (X.env :: X.outer) := fun {h o vs} ff e dd hm => by
      obtain ⟨_, o', e', hnf⟩ := ff.mem hm
      rw [e] at e'; cases e'
      exact hnf _ dd
    have nfr := notFr fl3.2.2.1 he3 hd3
    have nL : a ≠ X.env.locals := fun z => nfr (List.mem_filterMap.mpr ⟨X.env, List.mem_cons_self, by rw [hf, z]⟩)
    have nF : a ∉ X.fs := fun hm => by
      obtain ⟨e, he, q⟩ := List.mem_filterMap.mp hm
      exact nfr (List.mem_filterMap.mpr ⟨e, List.mem_cons_of_mem _ he, q⟩)
    have S3 := J3.suite he3 hd3 na nL nF
    refine wpAny_handleBy_cons (codeAny_handlers_test ?_) (by intro q; cases q)
    have LT : PySem.W.Looks (model X.prog X.w) h3 (typeOf (.ref a)) cls := fun A Q E s k q => wpAny_typeOf_ref (k _ _ he3) (by rw [hz3.1]; exact q)
    have LM := PySem.W.exm_one (M := model X.prog X.w) (J3.kIn) LT hb1
    have test : ∀ {Q : Value → Shared → Prop} {E : Value → Shared → Prop}, Q c { s' with heap := h3 } → wpAny (model X.prog X.w) (X.A.mark (some (.ref a))) (eval (.Name x np) X.env) Q E { s' with heap := h3 } := fun {Q E} q => by
      obtain ⟨hg, hdbg, hm | ⟨hm, hv, hnn⟩⟩ := hc
      · exact ld_glob (X := X.suite a ((a, oe3) :: (X.pn ++ pins))) S3 hg hm q hdbg
      · exact ld_blt (X := X.suite a ((a, oe3) :: (X.pn ++ pins))) S3 hg hm hv q hnn hdbg
    refine test (LM.here ?_)
    cases b with
    | true =>
      refine codeAny_handlers_suite_as ?_
      refine HandSPX.lands_againZ fl3 fun h4 fl4 up4 => ?_
      have J4 : Inv X pins σ' H' { s' with heap := h4 } := J.landed nb fl4.1 ((up.trans up3).trans up4) os ag
      obtain ⟨oe4, vs4, he4, hz4, hd4⟩ := fl4.there
      have notB : sI.heap.get? a = none := by
        cases q : sI.heap.get? a with
        | none => rfl
        | some o =>
          have z := nb a o q (by rw [hs]; exact nfr)
          rw [fl3.2.1] at z
          cases z
      have n0 : X.s_0.heap.get? a = none := by
        cases q : X.s_0.heap.get? a with
        | none => rfl
        | some o =>
          obtain ⟨o', z⟩ := J.base.there a o q (by rw [hex]; exact fun z => nomatch z)
          rw [notB] at z
          cases z
      have JT := Inv_track (cls := cls) (d := d) J4 he4 hz4 hd4 na n0 nL fun p hp z => by
        obtain ⟨y, _⟩ := J.pin p hp
        rw [z, notB] at y
        cases y
      have S4 := Inv_suiteT JT a
      refine store_ok (X := X.suite a (X.pn ++ pins)) (v := .ref a) S4 hN hi hloc rfl (fun s5 S5 => ?_) (.inr hln)
      refine wpAny_mono ((hsu a cls d (X.pn ++ pins)).run [] s5 _ _ _ S5 (hyes rfl a na)) (fun f s6 hsp => ?_) (fun _ _ z => False.elim z)
      have end_ : ∀ {σ6 : L2.St} {H6 : Hp} {Q : Shared → Prop}, Inv (X.suite a (X.pn ++ pins)) [] σ6 H6 s6 → (∀ s7, Inv X pins (σ6.set i none) H6 s7 → Q s7) →
          wpAny (model X.prog X.w) X.A (do bindName X.env n .none; unbindBehindTheSuite X.env n pos') (fun _ s7 => Q s7) X.xe s6 := fun {σ6 H6 Q} S6 hq => gone_ok (Inv_unsuiteT S6 ok) hN hi hln hq
      cases f with
      | next =>
        obtain ⟨σ6, H6, S6, q6⟩ := hsp
        exact end_ S6 fun s7 J7 => ⟨_, _, J7, q6⟩
      | brk =>
        obtain ⟨σ6, H6, S6, q6⟩ := hsp
        exact end_ S6 fun s7 J7 => ⟨_, _, J7, q6⟩
      | cont =>
        obtain ⟨σ6, H6, S6, q6⟩ := hsp
        exact end_ S6 fun s7 J7 => ⟨_, _, J7, q6⟩
      | ret u =>
        obtain ⟨v6, σ6, H6, S6, r6, q6⟩ := hsp
        exact end_ S6 fun s7 J7 => ⟨_, _, _, J7, r6, q6⟩
    | false =>
      show wpAny _ X.A (handleBy (.ref a) X.env []) _ _ _
      refine wpAny_handleBy_nil ?_
      obtain ⟨k1, k2, k3, oe, vs, T, oT, ts', he, hz, hd, h1, hr⟩ := id fl3
      unfold PySem.passOn
      refine wpAny_bind (wpAny_field he hd h1 ?_)
      rw [if_neg (show ¬ ((Value.ref T == Value.none) = true) from by simp)]
      have fin : wpAny (model X.prog X.w) X.A (setFlight (.ref a) X.env.frame) (fun _ s4 => wpAny (model X.prog X.w) X.A (throw (.ref a) : Sem Flow) (SP X pins D) X.xe s4) X.xe { s' with heap := h3 } := by
        rw [hf]
        refine HandSPX.setFlight_upZ fl3 fun h4 hh4 up4 => wpAny_throw (tk _ _ ?_)
        exact ⟨a, B, sI, pins, σ', H', cls, d, rfl, J, nb, (up.trans up3).trans up4, .inr (.inr (by rw [hs]; exact hh4)), na, os, ag, hno rfl⟩
      first
        | exact wpAny_bind (wpAny_pure (wpAny_bind fin))
        | exact wpAny_bind fin
  · cases f with
    | next =>
      obtain ⟨σ', H', J', q⟩ := hsp
      exact wpAny_execs_nil ⟨σ', H', J'.ofTry ok, q⟩
    | brk =>
      obtain ⟨σ', H', J', q⟩ := hsp
      exact ⟨σ', H', J'.ofTry ok, q⟩
    | cont =>
      obtain ⟨σ', H', J', q⟩ := hsp
      exact ⟨σ', H', J'.ofTry ok, q⟩
    | ret u =>
      obtain ⟨v, σ', H', J', r, q⟩ := hsp
      exact ⟨v, σ', H', J'.ofTry ok, r, q⟩
end
section
variable {X : Cx} {o e : Expr} {te : TE} {f : Str} {pos : Pos}
/-- e.f, e a caught exception that holds fs -/
def tTFld (K : PySem.W.Frag) (te : TE) (f : Str) : TE := fun σ H Q => te σ H fun x H1 => ∃ (a C d : Addr) (fs : List (Str × V)) (v : V), x = .ref a ∧ H1 a = some (ExT a (.ref C) (some d)) ∧ H1 d = some (.xd fs) ∧ ExcC K C ∧ PySem.W.findIn K (.ref C) f = some none ∧ fs.lookup f = some v ∧ Q v H1
theorem pe_tfld (he : PE X e te) (hb : attributeBase e f X.env (eval e X.env) = eval e X.env := by rfl) : PE X (.Attribute e f pos) (tTFld X.K te f) := by
  refine ⟨fun pins s σ H Q I h => ?_⟩
  refine attr_of hb (thn (he.run pins s σ H _ I h) fun u s1 hh => ?_)
  obtain ⟨x, H1, I1, rx, a, C, d, fs, v, ex, ea, ed, T, hno, hl, q⟩ := hh
  subst ex
  obtain rfl : u = Value.ref a := rx
  obtain ⟨oe, vs, ho, hz, hd⟩ := exT_at I1.hok ea
  have hx : ObjOk X.prog X.w H1 s1.heap d (.xd fs) := I1.hok d _ ed
  obtain ⟨mA, hns, hr⟩ := hx
  obtain ⟨od, ho2, hl2⟩ := lookIn_ns hns
  obtain ⟨u, hu, ru⟩ := RelO.some_of (v := v) (o := mA f) (by rw [← hl]; exact hr f)
  have J : PySem.W.InstAt s1.heap a oe C (some od) := ⟨ho, hz.1, by unfold PySem.W.notCls; rw [hd] <;> rfl, by rw [hz.2]; exact ho2⟩
  exact HandSPX.exc_get I1.kIn J T.hg T.hk T.hs (PySem.W.findObj_own T.hd hno rfl (by rw [hl2, hu])) (handed_of ru) ⟨v, H1, I1.tok _, ru, q⟩
/-- isinstance(e, c), e such an exception -/
def rIsT (K : PySem.W.Frag) : List V → Hp → VK → Prop := fun xs H Q => ∃ (a D d : Addr) (c : V) (cv : Value) (b : Bool) (fs : List (Str × V)), xs = [.ref a, c] ∧ H a = some (ExT a (.ref D) (some d)) ∧ H d = some (.xd fs) ∧ ExcC K D ∧ (∀ u, RelV c u → u = cv) ∧ PySem.W.kitOne K (.ref D) cv = some b ∧ Q (.bl b) H
theorem call_isT' : CallR X (.builtin "isinstance") (rIsT X.K) := by
  intro pins s σ H xs us Q I r h
  obtain ⟨a, D, d, c, cv, b, fs, rfl, ea, ed, T, k, e, q⟩ := h
  obtain ⟨u1, u2, rfl, r1, r2⟩ := vals2 r
  have e2 := k _ r2
  subst e2
  cases (show u1 = Value.ref a from r1)
  obtain ⟨oe, vs, ho, hz, hd⟩ := exT_at I.hok ea
  have hx : ObjOk X.prog X.w H s.heap d (.xd fs) := I.hok d _ ed
  obtain ⟨mA, hns, hr⟩ := hx
  obtain ⟨od, ho2, hl2⟩ := lookIn_ns hns
  have J : PySem.W.InstAt s.heap a oe D (some od) := ⟨ho, hz.1, by unfold PySem.W.notCls; rw [hd] <;> rfl, by rw [hz.2]; exact ho2⟩
  obtain ⟨cd, hcd, _⟩ := PySem.W.any_some T.hd
  exact PySem.W.kia_one (PySem.W.kitx_exc (by rw [hcd]; rfl) T.hg T.hk T.hs T.ha T.hn T.ht T.hm) I.kIn J e (fun z => nomatch z) fun tk => ⟨.bl b, H, I.tok tk, rfl, q⟩
end
end Cut
set_option Elab.async false
set_option linter.all false
set_option maxRecDepth 100000
set_option maxHeartbeats 8000000
namespace Cut
open PySem PySem.Spec PyProof.Rows L2
/-! ### NoLine, and need_line where there is no line -/
abbrev sInitP : Stmt := inClass (topS 3) 0
theorem scIP : FnScope ["self", "paper"] ["self", "paper"] (defScope sInitP) := ⟨rfl, rfl, rfl, by decide +kernel, rfl, by decide +kernel, by decide +kernel⟩
section
variable {P : Program} {w : World} {K : PySem.W.Frag} {mg : Str → Option Value} {base : Heap}
/-- behind such an __init__ of the exception at a: all else as it was, a holds the fields fs -/
def Made (C : Addr) (H : Hp) (a : Addr) (fs : List (Str × V)) (Q : VK) : Prop := ∀ (H' : Hp) (d : Addr), H d = none → d ≠ a → (∀ b, b ≠ a → b ≠ d → H' b = H b) → H' a = some (exo a C (some d)) → H' d = some (exd d fs) → Q .non H'
def spI1 (K : PySem.W.Frag) (C : Addr) (f : Str) : Sp := fun vs H Q _ => ∃ (a : Addr) (x : V), vs = [.ref a, x] ∧ OexC K C ∧ PySem.W.findIn K (.ref C) f = some none ∧ H a = some (exo a C none) ∧ Made C H a [(f, x)] Q
theorem made1 {C a d : Addr} {H : Hp} {f : Str} {x : V} {Q : VK} (m : Made C H a [(f, x)] Q) (h : H d = none) (n : d ≠ a) : Q .non (upd (upd H d (exd d [(f, x)])) a (exo a C (some d))) :=
  m _ d h n (fun b h1 h2 => by rw [upd_ne h1, upd_ne h2]) upd_same (by rw [upd_ne n, upd_same])
theorem ok_iP {f C : Addr} {fd : FuncData} (F : Fun K "__init__" "NoLine.__init__" sInitP f fd) : FnOk P w K mg base CX0 1 f fd ["self", "paper"] (spI1 K C "paper") := by
  refine F.ok scIP (fun vs H Q E h => ?_) (fun cdv A outer s H vs Q E hr h => ?_)
  · obtain ⟨a, x, rfl, _⟩ := h
    rfl
  · obtain ⟨a, x, rfl, T, n1, ha, m⟩ := h
    exact ⟨_, pss_one (ps_ost (pv 0) (pv 1)), _, rfl, _, rfl, a, C, rfl, T, n1, .inl ⟨ha, fun d hd nd => made1 m hd nd⟩⟩
/-- what the top says of NoLine, at C, and of its base, at CA -/
structure NoLn (K : PySem.W.Frag) (mg : Str → Option Value) (C CA fI : Addr) : Prop where
  gC : mg "NoLine" = some (.ref C)
  gA : mg "AnswerError" = some (.ref CA)
  o : OexC K C
  x : ExcC K C
  iC : PySem.W.findIn K (.ref C) "__init__" = some (some (.ref fI))
  tI : PySem.W.typeIn K (.ref fI) = some (.type "function")
  nP : PySem.W.findIn K (.ref C) "paper" = some none
  te : PySem.W.exmOne K (.ref C) (.ref CA) = some true
  ki : PySem.W.kitOne K (.ref C) (.ref C) = some true
def spNeedX (K : PySem.W.Frag) (C : Addr) : Sp := fun vs H Q E => ∃ (q tl : Addr) (ats : List Atm) (T : List Nat) (x : Nat × Nat × Nat), vs = [.ref q, .ref tl] ∧ QTb K H q tl ats T ∧ lineN ats T = none ∧ triN ats T = some x ∧
  ∀ (H' : Hp) (d : Addr) (v : V), Same H H' → H' d = some (.xd [(("paper" : Str), v)]) → TdAt K H' ats v (some x) → E (.ref C) (some d) H'
theorem ok_needX {f fL fT fI C CA : Addr} {fd fdL fdT fdI : FuncData} (F : Fun K "need_line" "need_line" sNeedLine f fd) (N : NoLn K mg C CA fI)
    (bI : Binds K fdI ["self", "paper"] []) (GI : FnOk P w K mg base CX0 1 fI fdI ["self", "paper"] (spI1 K C "paper"))
    (FL : Fun K "line_of" "line_of" sLineOf fL fdL) (bL : Binds K fdL ["question", "tables"] []) (gL : mg "line_of" = some (.ref fL)) (GL : FnOk P w K mg base CX0 4 fL fdL ["question", "tables"] (spLineOf K))
    (FT : Fun K "triad_of" "triad_of" sTriadOf fT fdT) (bT : Binds K fdT ["question", "tables"] []) (gT : mg "triad_of" = some (.ref fT)) (GT : FnOk P w K mg base CX0 4 fT fdT ["question", "tables"] (spTriadOf K)) :
    FnOk P w K mg base (L2.CX P w) 5 f fd ["question", "tables"] (spNeedX K C) := by
  refine F.okX scNeedL (fun vs H Q E h => ?_) (fun cdv A outer s H vs Q E hr h => ?_)
  · obtain ⟨q, tl, ats, T, x, rfl, _⟩ := h
    rfl
  · obtain ⟨q, tl, ats, T, x, rfl, qt, hl, ht, fin⟩ := h
    have nd := scNeedL.nd
    have hr2 : Room 2 _ := hr.mono (by decide)
    refine ⟨_, pss_cons (ps_set (i := 2) nd rfl (.inl rfl) (pe_call GL hr (by rfl) gL FL.kp bL .nil pass0 (pa_cons (pv 0) (pa_cons (pv 1) pa_nil))))
      (pss_cons (ps_if (pt_cmp (pc_isN (pv 2))) (pss_one (ps_raise rfl (takes_of rfl rfl rfl rfl) (pmk_oex N.o N.iC N.tI GI hr2 bI .nil pass0 (by rfl) N.gC (pa_cons (pe_call GT hr (by rfl) gT FT.kp bT .nil pass0 (pa_cons (pv 0) (pa_cons (pv 1) pa_nil))) pa_nil)))) pss_nil)
      (pss_one (ps_ret (pv 2)))), ?_⟩
    refine ⟨_, rfl, _, rfl, q, tl, ats, T, rfl, qt, fun H1 v s1 ln => ?_⟩
    rw [hl] at ln
    have ln : v = .non := ln
    subst ln
    refine ⟨_, rfl, _, rfl, iteT ?_⟩
    refine ⟨_, rfl, _, rfl, q, tl, ats, T, rfl, qt.same s1, fun H2 u s2 td => ?_⟩
    rw [ht] at td
    refine ⟨by show 1 ≤ 1000; decide, fun a na => ?_⟩
    refine ⟨a, u, rfl, N.o, N.nP, upd_same, fun H3 d hd nda keep h3a h3d => ?_⟩
    rw [upd_ne nda] at hd
    refine ⟨rfl, d, _, h3a, h3d, hd, ?_⟩
    have s3 : Same H2 (upd (del H3 a) d (.xd [(("paper" : Str), u)])) := fun b o e => by
      have ba := ne_of_none e na
      have bd := ne_of_none e hd
      rw [upd_ne bd, del_ne ba, keep b ba bd, upd_ne ba]
      exact e
    exact fin _ d u ((s1.trans s2).trans s3) upd_same (td.same s3)
/-! ### the law's look at need_line -/
abbrev NNp : List Str := ["question", "tables", "found", "caught", "error"]
theorem scNeedP : FnScope NNp ["question", "tables"] (defScope sNeedPaper) := ⟨rfl, rfl, rfl, by decide +kernel, rfl, by decide +kernel, by decide +kernel⟩
def spNeedP (K : PySem.W.Frag) : Sp := fun vs H Q _ => ∃ (q tl : Addr) (ats : List Atm) (T : List Nat) (x : Nat × Nat × Nat), vs = [.ref q, .ref tl] ∧ QTb K H q tl ats T ∧ lineN ats T = none ∧ triN ats T = some x ∧
  ∀ (H' : Hp) (a : Addr) (v : V), Same H H' → H' a = some (.tup [.str "none", v]) → TdAt K H' ats v (some x) → Q (.ref a) H'
theorem ok_needP {f fN fI C CA : Addr} {fd fdN : FuncData} (F : Fun K "_law_need_or_paper" "_law_need_or_paper" sNeedPaper f fd) (B : Blt mg) (N : NoLn K mg C CA fI)
    (FN : Fun K "need_line" "need_line" sNeedLine fN fdN) (bN : Binds K fdN ["question", "tables"] []) (gN : mg "need_line" = some (.ref fN)) (GN : FnOk P w K mg base (L2.CX P w) 5 fN fdN ["question", "tables"] (spNeedX K C)) :
    FnOk P w K mg base CX0 6 f fd ["question", "tables"] (spNeedP K) := by
  refine F.ok scNeedP (fun vs H Q E h => ?_) (fun cdv A outer s H vs Q E hr h => ?_)
  · obtain ⟨q, tl, ats, T, x, rfl, _⟩ := h
    rfl
  · obtain ⟨q, tl, ats, T, x, rfl, qt, hl, ht, fin⟩ := h
    have nd := scNeedP.nd
    refine ⟨_, pss_cons (ps_asg (pe_tup (pa_cons pe_non (pa_cons pe_non pa_nil))) (pg_tup (by rfl) (pgs_cons (pg_name (i := 2) nd rfl (.inl rfl)) (pgs_cons (pg_name (i := 3) nd rfl (.inl rfl)) pgs_nil))))
      (pss_cons (ps_try_asT rfl (i := 4) (tb := fun W => tAsg (tCallS (spNeedX K C) (WE W) (tCons (tVar 0) (tCons (tVar 1) tNil))) (gName 2)) (ts := fun a cls d => tAsg (tVar 4) (gName 3)) (Wout := fun _ _ _ _ => False) rfl rfl nd rfl rfl ⟨rfl, by decide, Or.inl N.gA⟩ takes0
        (fun W pn xe tk _ => pss_one (ps_set (i := 2) nd rfl (.inl rfl) (by exact (pe_callS GN hr rfl gN FN.kp bN (fun σ => passAt tk σ) (by exact (pa_cons (pv 0) (pa_cons (pv 1) pa_nil)))))))
        (fun a cls d pn => pss_one (ps_set (i := 3) nd rfl (.inl rfl) (by exact (pv 4)))))
      (pss_cons (ps_if (pt_cmp (pc_isN (pv 3))) (pss_one (ps_ret (pv 2))) pss_nil)
      (pss_one (ps_ret (pe_ifExp (pt_val (pe_callB (id := "isinstance") (r := rIsT K) call_isT' (by rfl) B.isi (by decide +kernel) (pa_cons (pv 3) (pa_cons (pe_glob (v := .ref C) rfl N.gC rfl) pa_nil)))) (pe_tup (pa_cons pe_str (pa_cons (pe_tfld (pv 3)) pa_nil))) pe_str))))), ?_⟩
    have ln : ∀ n : Nat, n ≤ 1000 → n ≤ sizeLine := fun n h => Nat.le_of_lt (small1000 h)
    refine ⟨ln 2 (by decide), fun t nt => ⟨t, [.non, .non], rfl, SqT.of upd_same, rfl, .non, [.non], rfl, .non, [], rfl, rfl, ?_⟩⟩
    have s0 : Same H (upd H t (.tup [.non, .non])) := same_new nt
    generalize upd H t (.tup [.non, .non]) = H0 at s0 ⊢
    refine ⟨_, rfl, _, rfl, q, tl, ats, T, x, rfl, qt.same s0, hl, ht, fun H1 d v s1 hd td => ?_⟩
    refine ⟨true, N.te, fun _ a na => ?_, fun q => Bool.noConfusion q⟩
    have s2 : Same H1 (upd H1 a (ExT a (.ref C) (some d))) := same_new na
    have ha : upd H1 a (ExT a (.ref C) (some d)) a = some (ExT a (.ref C) (some d)) := upd_same
    have hd2 := s2 _ _ hd
    have td2 := td.same s2
    generalize upd H1 a (ExT a (.ref C) (some d)) = H2 at s2 ha hd2 td2 ⊢
    refine ⟨_, rfl, ?_⟩
    refine ⟨_, rfl, _, rfl, iteF ?_⟩
    refine ⟨_, rfl, a, C, d, .ref C, .ref C, true, _, rfl, ha, hd2, N.x, fun u r => r, N.ki, _, rfl, iteT ?_⟩
    refine ⟨_, rfl, a, C, d, _, v, rfl, ha, hd2, N.x, N.nP, by simp [List.lookup], ln 2 (by decide), fun z nz => ?_⟩
    have s3 : Same H2 (upd H2 z (.tup [.str "none", v])) := same_new nz
    exact fin _ z v (((s0.trans s1).trans s2).trans s3) upd_same (td2.same s3)
end
end Cut
set_option Elab.async false
set_option linter.all false
set_option maxRecDepth 100000
set_option maxHeartbeats 8000000
namespace Cut
open PySem PySem.Spec PyProof.Rows L2
/-! ### what is right of a question's tables, as the law looks at it -/
theorem for_zipM {K : PySem.W.Frag} {a b : Addr} {xs ys : List V} {σ0 : L2.St} {H0 : Hp} {Done : L2.St → Hp → Prop} {Body : Nat → V → L2.St → Hp → (L2.St → Hp → Prop) → Prop} (Pv : Nat → L2.St → Hp → Prop) (h0 : Pv 0 σ0 H0) (hl : ∀ i σ H, Pv i σ H → SqT K H a xs ∧ SqL K H b ys)
    (turn : ∀ i x y σ H T, xs[i]? = some x → ys[i]? = some y → Pv i σ H → H T = none → Body i (.ref T) σ (upd H T (.tup [x, y])) (Pv (i + 1))) (fin : ∀ σ H, Pv (min xs.length ys.length) σ H → Done σ H) :
    ∃ W : Nat → Nat → L2.St → Hp → Prop, (∃ m, W 0 m σ0 H0) ∧ ∀ i m σ H, W i m σ H →
      ((ItzM K a b xs.length ys.length).stop i H ∧ Done σ H) ∨ ((ItzM K a b xs.length ys.length).go i H ∧ ∃ Nx : L2.St → Hp → Prop, (∀ σ' H', Nx σ' H' → ∃ m', m' < m ∧ W (i + 1) m' σ' H') ∧ ∀ x H', (ItzM K a b xs.length ys.length).yld i H x H' → Body i x σ H' Nx) := by
  refine ⟨fun i m σ H => m + i = min xs.length ys.length ∧ Pv i σ H, ⟨_, rfl, h0⟩, fun i m σ H h => ?_⟩
  obtain ⟨em, p⟩ := h
  obtain ⟨qa, qb⟩ := hl i σ H p
  by_cases lt : i < min xs.length ys.length
  · have l1 : i < xs.length := by omega
    have l2 : i < ys.length := by omega
    refine .inr ⟨⟨by omega, by omega, xs, ys, xs[i], ys[i], qa, qb, rfl, rfl, List.getElem?_eq_getElem l1, List.getElem?_eq_getElem l2⟩, Pv (i + 1), fun σ' H' p' => ⟨m - 1, by omega, by omega, p'⟩, fun x H' y => ?_⟩
    obtain ⟨T, u, v, rfl, hT, rfl, hu, hv⟩ := y
    exact turn i u v σ H T (hu xs qa) (hv ys qb) p hT
  · have e : i = min xs.length ys.length := by omega
    subst e
    exact .inl ⟨⟨by omega, by omega, xs, ys, qa, qb, rfl, rfl, by omega⟩, fin σ H p⟩
theorem GoodQ.tbok {ats : List Atm} (g : GoodQ ats) : TbOk ats := fun i hi => (nm_ok _ (g.tab hi)).1
theorem tabs_told {ats : List Atm} (g : GoodQ ats) {p : List Nat} (lt : ∀ k ∈ p, k < ats.length) (l : p.length ≤ 6) : Told (tD (tabsOf ats p)) :=
  tD_told (tabsOf_ok g lt) (by unfold tabsOf; rw [List.length_map]; exact l)
theorem tabs_dp {K : PySem.W.Frag} {H : Hp} {a : Addr} {ats : List Atm} {p : List Nat} (h : SqT K H a (tabsV ats p)) : Dp K H (.ref a) (tD (tabsOf ats p)) := by
  rw [← tabsOf_V] at h
  exact .tup h (strs_dp _)
theorem told_none : Told .none := ⟨rfl, rfl, by decide +kernel⟩
theorem line_perm {ats : List Atm} {T p : List Nat} (nd : T.Nodup) (h : lineN ats T = some p) : p.Perm T := lex_perm rfl nd (List.mem_of_find?_eq_some h)
theorem tr_dp {K : PySem.W.Frag} {H : Hp} {v : V} {ats : List Atm} {x : Nat × Nat × Nat} (h : TrAt K H ats v x) : Dp K H v (tD (tabsOf ats [x.1, x.2.1, x.2.2])) := by
  obtain ⟨a, rfl, h⟩ := h
  exact tabs_dp (p := [x.1, x.2.1, x.2.2]) h
abbrev NRi : List Str := ["question", "tables", "own", "due", "three", "line", "triad", "one", "other", "last", "chain", "ends", "told"]
theorem scRight : FnScope NRi ["question", "tables"] (defScope sRight) := ⟨rfl, rfl, rfl, by decide +kernel, rfl, by decide +kernel, by decide +kernel⟩
section
variable {P : Program} {w : World} {K : PySem.W.Frag} {mg : Str → Option Value} {base : Heap}
/-- what _law_right calls -/
structure RCan (P : Program) (w : World) (K : PySem.W.Frag) (mg : Str → Option Value) (base : Heap) : Prop where
  own : Can P w K mg base "_law_own_names" ["question"] 1 (spOwn K)
  fLine : Can P w K mg base "_law_first_line" ["question", "tables"] 12 (spFirstLine K)
  fTriad : Can P w K mg base "_law_first_triad" ["own", "tables"] 3 (spFirstTriad K)
  line : Can P w K mg base "line_of" ["question", "tables"] 4 (spLineOf K)
  triad : Can P w K mg base "triad_of" ["question", "tables"] 4 (spTriadOf K)
  same : CanG P w K mg base "_law_same" ["one", "other"] 1 (spSame K)
  showsL : Can P w K mg base "shows_line" ["question", "tables", "thing"] 4 (spShowsL K)
  need : Can P w K mg base "need_line" ["question", "tables"] 5 (spNeedL K)
  chain : Can P w K mg base "_law_is_chain" ["own", "chain", "one", "other", "past"] 1 (spIsChain K)
  showsT : Can P w K mg base "shows_triad" ["question", "tables", "thing"] 4 (spShowsT K)
  needP : Can P w K mg base "_law_need_or_paper" ["question", "tables"] 6 (spNeedP K)
def spRight (K : PySem.W.Frag) : Sp := fun vs H Q _ => ∃ (q tl : Addr) (ats : List Atm) (T : List Nat), vs = [.ref q, .ref tl] ∧ GoodQ ats ∧ QTb K H q tl ats T ∧ ∀ H', Same H H' → Q (.bl true) H'
theorem ok_right {f : Addr} {fd : FuncData} (F : Fun K "_law_right" "_law_right" sRight f fd) (B : Blt mg) (mZip : mg "zip" = none) (C : RCan P w K mg base) :
    FnG P w K mg base CX0 13 f fd ["question", "tables"] (spRight K) := by
  refine okG F scRight (fun vs H Q E h => ?_) (fun cdv A outer s H vs Q E hg hr h => ?_)
  · obtain ⟨q, tl, ats, T, rfl, _⟩ := h
    rfl
  · obtain ⟨q, tl, ats, T, rfl, good, qt, fin⟩ := h
    have nd := scRight.nd
    have hr1 : Room 1 _ := hr.mono (by decide)
    have hr3 : Room 3 _ := hr.mono (by decide)
    have hr4 : Room 4 _ := hr.mono (by decide)
    have hr5 : Room 5 _ := hr.mono (by decide)
    have hr6 : Room 6 _ := hr.mono (by decide)
    have ln : ∀ n : Nat, n ≤ 1000 → n ≤ sizeLine := fun n h => Nat.le_of_lt (small1000 h)
    have dist := good.dist
    have six := qt.six
    refine ⟨_, PSs.nox (pss_cons (ps_set (i := 2) nd rfl (.inl rfl) (pe_can C.own hr1 (by rfl) (pa_cons (pv 0) pa_nil)))
      (pss_cons (ps_par (i := 3) (j := 4) (by rfl) nd rfl rfl (by decide) rfl rfl (pa_cons (pe_can C.fLine hr (by rfl) (pa_cons (pv 0) (pa_cons (pv 1) pa_nil))) (pa_cons (pe_can C.fTriad hr3 (by rfl) (pa_cons (pv 2) (pa_cons (pv 1) pa_nil))) pa_nil)) (by rfl))
      (pss_cons (ps_par (i := 5) (j := 6) (by rfl) nd rfl rfl (by decide) rfl rfl (pa_cons (pe_can C.line hr4 (by rfl) (pa_cons (pv 0) (pa_cons (pv 1) pa_nil))) (pa_cons (pe_can C.triad hr4 (by rfl) (pa_cons (pv 0) (pa_cons (pv 1) pa_nil))) pa_nil)) (by rfl))
      (pss_cons (ps_if (PW.pt (pw_or (pt_cmpR op_eq (pe_cmp (pc_isN (pv 3)) rfl) (pe_cmp (pc_isN (pv 4)) rfl) (nomark _)) (pw_or1 (pt_not (pt_val (pe_canG C.same hg hr1 (by rfl) (pa_cons (pv 5) (pa_cons (pv 3) pa_nil)))))))) (pss_one (ps_ret pe_bl)) pss_nil)
      (pss_cons (ps_if (pt_cmp (pc_isN (pv 4))) (pss_one (ps_ret (pe_and (pe_cmp (pc_isN (pv 6)) rfl) (pe_and (pe_cmpR op_is_bl (pe_can C.showsL hr4 (by rfl) (pa_cons (pv 0) (pa_cons (pv 1) (pa_cons (pv 5) pa_nil)))) pe_bl (nomark _)) (pe_one (pe_cmpR (op_eqD hr.units) (pe_can C.need hr5 (by rfl) (pa_cons (pv 0) (pa_cons (pv 1) pa_nil))) (pv 5) (nomark _))))))) pss_nil)
      (pss_cons (ps_if (PW.pt (pw_or (pt_cmp (pc_isN (pv 6))) (pw_or (pt_cmpR (op_neD hr.units) (pe_ix ix_tup (pv 6) pe_int (fun _ _ => rfl)) (pv 4) (nomark _)) (pw_or (pt_cmpR op_ne (pe_callB call_len_seq (by rfl) B.len PySem.boot_len (pa_cons (pv 6) pa_nil)) pe_int (nomark _)) (pw_or1 (pt_cmpR op_ne (pe_callB call_len_seq (by rfl) B.len PySem.boot_len (pa_cons (pe_ix ix_tup (pv 6) pe_int (fun _ _ => rfl)) pa_nil)) pe_int (nomark _))))))) (pss_one (ps_ret pe_bl)) pss_nil)
      (pss_cons (ps_asg (pv 4) (pg_tup (by rfl) (pgs_cons (pg_name (i := 7) nd rfl (.inl rfl)) (pgs_cons (pg_name (i := 8) nd rfl (.inl rfl)) (pgs_cons (pg_name (i := 9) nd rfl (.inl rfl)) pgs_nil)))))
      (pss_cons (ps_for PassesOwn.never rfl (pi_zipM (by rfl) mZip (pa_cons (pe_ix ix_tup (pv 6) pe_int (fun _ _ => rfl)) (pa_cons (pe_lst (pa_cons (pe_tup (pa_cons (pv 7) (pa_cons (pv 8) (pa_cons (pv 9) pa_nil)))) (pa_cons (pe_tup (pa_cons (pv 7) (pa_cons (pv 9) (pa_cons (pv 8) pa_nil)))) (pa_cons (pe_tup (pa_cons (pv 8) (pa_cons (pv 9) (pa_cons (pv 7) pa_nil)))) pa_nil)))) pa_nil))) (pg_tup (by rfl) (pgs_cons (pg_name (i := 10) nd rfl (.inl rfl)) (pgs_cons (pg_name (i := 11) nd rfl (.inl rfl)) pgs_nil)))
        (pss_one (ps_if (pt_not (pt_val (pe_can C.chain hr1 (by rfl) (pa_cons (pv 2) (pa_cons (pv 10) (pa_cons (pe_ix ix_tup (pv 11) pe_int (fun _ _ => rfl)) (pa_cons (pe_ix ix_tup (pv 11) pe_int (fun _ _ => rfl)) (pa_cons (pe_ix ix_tup (pv 11) pe_int (fun _ _ => rfl)) pa_nil)))))))) (pss_one (ps_ret pe_bl)) pss_nil)))
      (pss_cons (ps_if (pt_cmpR op_isnot_bl (pe_can C.showsT hr4 (by rfl) (pa_cons (pv 0) (pa_cons (pv 1) (pa_cons (pv 6) pa_nil)))) pe_bl (nomark _)) (pss_one (ps_ret pe_bl)) pss_nil)
      (pss_cons (ps_set (i := 12) nd rfl (.inl rfl) (pe_can C.needP hr6 (by rfl) (pa_cons (pv 0) (pa_cons (pv 1) pa_nil))))
      (pss_one (ps_ret (pe_and (pe_callB (id := "isinstance") (r := rIsi K) call_isi (by rfl) B.isi (by decide +kernel) (pa_cons (pv 12) (pa_cons (pe_bltn (v := .ty "tuple") (by rfl) B.tuple (by decide +kernel) rfl) pa_nil))) (pe_and (pe_cmpR op_eq (pe_ix ix_tup (pv 12) pe_int (fun _ _ => rfl)) pe_str (nomark _))
        (pe_one (pe_cmpR op_is_bl (pe_can C.showsT hr4 (by rfl) (pa_cons (pv 0) (pa_cons (pv 1) (pa_cons (pe_ix ix_tup (pv 12) pe_int (fun _ _ => rfl)) pa_nil)))) pe_bl (nomark _))))))))))))))))), ?_⟩
    obtain ⟨head, hq⟩ := qt.q
    refine ⟨_, rfl, q, head, ats, rfl, hq, qt.few, dist, fun H1 d s1 nd1 own => ?_⟩
    refine ⟨_, rfl, _, rfl, q, tl, ats, T, rfl, qt.same s1, good.txok, good.tbok, fun H2 v3 s2 ln3 => ?_⟩
    refine ⟨_, rfl, _, rfl, d, tl, ats, T, rfl, own.same s2, qt.few, dist, good.txok, seqT (s1.trans s2) qt.tl, six, qt.lt, fun H3 v4 s3 tp => ?_⟩
    have s13 := (s1.trans s2).trans s3
    refine ⟨v3, v4, rfl, ?_⟩
    refine ⟨_, rfl, _, rfl, q, tl, ats, T, rfl, qt.same s13, fun H4 v5 s4 ln5 => ?_⟩
    refine ⟨_, rfl, _, rfl, q, tl, ats, T, rfl, qt.same (s13.trans s4), fun H5 v6 s5 td => ?_⟩
    have s15 := (s13.trans s4).trans s5
    have qt5 := qt.same s15
    refine ⟨v5, v6, rfl, ?_⟩
    have tri_of := line_or_triad (ats := ats) qt.nd qt.lt
    cases hl : lineN ats T with
    | some p =>
      have ht : triN ats T = none := by
        cases e : triN ats T with
        | none => rfl
        | some t =>
          have := tri_of.mpr ⟨t, e⟩
          rw [hl] at this
          cases this
      rw [hl] at ln3 ln5
      rw [ht] at tp td
      obtain ⟨a3, rfl, h3⟩ := ln3
      have tp : v4 = .non := tp
      subst tp
      obtain ⟨a5, rfl, h5⟩ := ln5
      have td : v6 = .non := td
      subst td
      have pl := line_perm qt.nd hl
      have pt := tabs_told good (fun k hk => qt.lt k (pl.mem_iff.mp hk)) (by rw [pl.length_eq]; exact six)
      have h5' := seqT s5 h5
      refine ⟨_, rfl, _, rfl, rfl, _, rfl, ?_⟩
      refine iteF ?_
      refine ⟨_, rfl, _, rfl, .ref a5, .ref a3, tD (tabsOf ats p), tD (tabsOf ats p), rfl, tabs_dp h5', tabs_dp (seqT ((s3.trans s4).trans s5) h3), pt, pt, _, rfl, ?_⟩
      rw [decide_eq_true rfl]
      refine iteF ?_
      refine ⟨_, rfl, _, rfl, iteT ?_⟩
      refine ⟨_, rfl, _, rfl, iteT ?_⟩
      refine ⟨_, rfl, _, rfl, _, rfl, q, tl, a5, ats, T, p, rfl, qt5, h5', hl, fun H6 s6 => ⟨true, true, rfl, rfl, _, rfl, ?_⟩⟩
      refine iteT ?_
      refine ⟨_, rfl, _, rfl, q, tl, ats, T, p, rfl, qt5.same s6, hl, fun H7 a7 s7 h7 => ?_⟩
      refine ⟨_, rfl, tD (tabsOf ats p), tD (tabsOf ats p), tabs_dp h7, tabs_dp (seqT (s6.trans s7) h5'), pt.sh, pt.sh, ?_⟩
      rw [SeqAt.eqv_refl _ (SeqAt.canLay_of_shaped pt.sh)]
      exact fin H7 ((s15.trans s6).trans s7)
    | none =>
      obtain ⟨x, ht⟩ := tri_of.mp hl
      rw [hl] at ln3 ln5
      rw [ht] at tp td
      have ln3 : v3 = .non := ln3
      subst ln3
      have ln5 : v5 = .non := ln5
      subst ln5
      obtain ⟨a4, rfl, h4⟩ := (show TrAt K H3 ats v4 x from tp)
      have td5 := td
      obtain ⟨a6, t6, c6, cs, rfl, h6, htr6, hc6, hcs⟩ := td
      have h4' := seqT (s4.trans s5) h4
      have sub := comb3_mem.mp (show (x.1, x.2.1, x.2.2) ∈ comb3 T from List.mem_of_find?_eq_some ht)
      have m1 := qt.lt _ (sub.subset (show x.1 ∈ [x.1, x.2.1, x.2.2] by simp))
      have m2 := qt.lt _ (sub.subset (show x.2.1 ∈ [x.1, x.2.1, x.2.2] by simp))
      have m3 := qt.lt _ (sub.subset (show x.2.2 ∈ [x.1, x.2.1, x.2.2] by simp))
      have nd3 := sub.nodup qt.nd
      have lcs : cs.length = 3 := paired_len hcs
      have pt : Told (tD (tabsOf ats [x.1, x.2.1, x.2.2])) := tabs_told good (fun k hk => by
        simp only [List.mem_cons, List.not_mem_nil, or_false] at hk
        rcases hk with rfl | rfl | rfl
        · exact m1
        · exact m2
        · exact m3) (by show 3 ≤ 6; decide)
      have n3 : x.1 ≠ x.2.1 ∧ x.1 ≠ x.2.2 ∧ x.2.1 ≠ x.2.2 := by
        simp only [List.nodup_cons, List.mem_cons, List.not_mem_nil, or_false, not_or, List.nodup_nil, and_true, not_false_eq_true] at nd3
        exact ⟨nd3.1.1, nd3.1.2, nd3.2⟩
      refine ⟨_, rfl, _, rfl, rfl, _, rfl, ?_⟩
      refine iteF ?_
      refine ⟨_, rfl, _, rfl, .non, .non, .none, .none, rfl, .non, .non, told_none, told_none, _, rfl, ?_⟩
      rw [decide_eq_true rfl]
      refine iteF ?_
      refine ⟨_, rfl, _, rfl, iteF ?_⟩
      refine ⟨_, rfl, _, rfl, iteF ?_⟩
      refine ⟨_, rfl, a6, _, 0, .ref t6, rfl, rfl, h6, rfl, _, rfl, tD (tabsOf ats [x.1, x.2.1, x.2.2]), tD (tabsOf ats [x.1, x.2.1, x.2.2]), tr_dp htr6, tabs_dp (p := [x.1, x.2.1, x.2.2]) h4', pt.sh, pt.sh, _, rfl, ?_⟩
      rw [SeqAt.eqv_refl _ (SeqAt.canLay_of_shaped pt.sh)]
      refine iteF ?_
      refine ⟨_, rfl, a6, _, rfl, .inr h6, rfl, _, rfl, ?_⟩
      refine iteF ?_
      refine ⟨_, rfl, a6, _, 1, .ref c6, rfl, rfl, h6, rfl, c6, _, rfl, .inr hc6, rfl, _, rfl, ?_⟩
      have e3 : decide (V.int ((cs.length : Nat) : Int) = V.int 3) = true := by
        rw [lcs]
        rfl
      rw [e3]
      refine iteF ?_
      refine ⟨_, rfl, a4, [.str (tabAt ats x.1), .str (tabAt ats x.2.1), .str (tabAt ats x.2.2)], rfl, h4', rfl, .str (tabAt ats x.1), [.str (tabAt ats x.2.1), .str (tabAt ats x.2.2)], rfl, .str (tabAt ats x.2.1), [.str (tabAt ats x.2.2)], rfl, .str (tabAt ats x.2.2), [], rfl, rfl, ?_⟩
      refine ⟨_, rfl, a6, _, 1, .ref c6, rfl, rfl, h6, rfl, ?_⟩
      refine ⟨_, rfl, _, rfl, _, rfl, ln 3 (by decide), fun t1 n1 => ?_⟩
      have sa : Same H5 (upd H5 t1 (.tup [.str (tabAt ats x.1), .str (tabAt ats x.2.1), .str (tabAt ats x.2.2)])) := same_new n1
      have g1 : upd H5 t1 (.tup [.str (tabAt ats x.1), .str (tabAt ats x.2.1), .str (tabAt ats x.2.2)]) t1 = some (.tup [.str (tabAt ats x.1), .str (tabAt ats x.2.1), .str (tabAt ats x.2.2)]) := upd_same
      generalize upd H5 t1 (.tup [.str (tabAt ats x.1), .str (tabAt ats x.2.1), .str (tabAt ats x.2.2)]) = Ha at sa g1 ⊢
      refine ⟨_, rfl, _, rfl, _, rfl, ln 3 (by decide), fun t2 n2 => ?_⟩
      have sb : Same Ha (upd Ha t2 (.tup [.str (tabAt ats x.1), .str (tabAt ats x.2.2), .str (tabAt ats x.2.1)])) := same_new n2
      have g2 : upd Ha t2 (.tup [.str (tabAt ats x.1), .str (tabAt ats x.2.2), .str (tabAt ats x.2.1)]) t2 = some (.tup [.str (tabAt ats x.1), .str (tabAt ats x.2.2), .str (tabAt ats x.2.1)]) := upd_same
      generalize upd Ha t2 (.tup [.str (tabAt ats x.1), .str (tabAt ats x.2.2), .str (tabAt ats x.2.1)]) = Hb at sb g2 ⊢
      refine ⟨_, rfl, _, rfl, _, rfl, ln 3 (by decide), fun t3 n3' => ?_⟩
      have sc : Same Hb (upd Hb t3 (.tup [.str (tabAt ats x.2.1), .str (tabAt ats x.2.2), .str (tabAt ats x.1)])) := same_new n3'
      have g3 : upd Hb t3 (.tup [.str (tabAt ats x.2.1), .str (tabAt ats x.2.2), .str (tabAt ats x.1)]) t3 = some (.tup [.str (tabAt ats x.2.1), .str (tabAt ats x.2.2), .str (tabAt ats x.1)]) := upd_same
      generalize upd Hb t3 (.tup [.str (tabAt ats x.2.1), .str (tabAt ats x.2.2), .str (tabAt ats x.1)]) = Hc at sc g3 ⊢
      refine ⟨ln 3 (by decide), fun l nl => ?_⟩
      have sd : Same Hc (upd Hc l (.lst [.ref t1, .ref t2, .ref t3])) := same_new nl
      have gl : upd Hc l (.lst [.ref t1, .ref t2, .ref t3]) l = some (.lst [.ref t1, .ref t2, .ref t3]) := upd_same
      generalize upd Hc l (.lst [.ref t1, .ref t2, .ref t3]) = H6 at sd gl ⊢
      have s56 := ((sa.trans sb).trans sc).trans sd
      have htr : Paired (TrAt K H6 ats) [.ref t1, .ref t2, .ref t3] (turnsN x) :=
        .cons ⟨t1, rfl, SqT.of (sd _ _ (sc _ _ (sb _ _ g1)))⟩ (.cons ⟨t2, rfl, SqT.of (sd _ _ (sc _ _ g2))⟩ (.cons ⟨t3, rfl, SqT.of (sd _ _ g3)⟩ .nil))
      have hcs6 := paired_mono (fun _ _ y => ChAt.same y s56) hcs
      refine ⟨c6, l, cs, [.ref t1, .ref t2, .ref t3], rfl, seqT s56 hc6, SqL.of gl, ?_⟩
      refine for_zipM (xs := cs) (ys := [.ref t1, .ref t2, .ref t3]) (fun k σ H9 => ∃ y10 y11 : Option V, σ = [some (.ref q), some (.ref tl), some (.ref d), some .non, some (.ref a4), some .non, some (.ref a6), some (.str (tabAt ats x.1)), some (.str (tabAt ats x.2.1)), some (.str (tabAt ats x.2.2)), y10, y11, none] ∧ Same H6 H9)
        ⟨none, none, rfl, Same.refl H6⟩ (fun k σ H9 h => by obtain ⟨_, _, _, sm⟩ := h; exact ⟨seqT (s56.trans sm) hc6, SqL.of (sm _ _ gl)⟩) ?_ ?_
      · rintro k v w σ H9 T hx hy ⟨y10, y11, rfl, s9⟩ nT
        obtain ⟨u, hu, hch⟩ := paired_get hcs6 hx
        obtain ⟨u', hu', ht3⟩ := paired_get htr hy
        have eu : u' = u := Option.some.inj (hu'.symm.trans hu)
        subst eu
        obtain ⟨tk, rfl, htk⟩ := ht3
        have hch2 := hch
        obtain ⟨cc, CC, rfl, _, _⟩ := hch
        have sT : Same H9 (upd H9 T (.tup [.ref cc, .ref tk])) := same_new nT
        have gT : upd H9 T (.tup [.ref cc, .ref tk]) T = some (.tup [.ref cc, .ref tk]) := upd_same
        generalize upd H9 T (.tup [.ref cc, .ref tk]) = H10 at sT gT ⊢
        have s6T := s9.trans sT
        have sAll := ((s13.trans s4).trans s5).trans (s56.trans s6T)
        have um : u'.1 ≠ u'.2.1 ∧ u'.2.2 < ats.length := by
          have hm := List.mem_of_getElem? hu
          simp only [turnsN, List.mem_cons, List.not_mem_nil, or_false] at hm
          rcases hm with rfl | rfl | rfl
          · exact ⟨n3.1, m3⟩
          · exact ⟨n3.2.1, m2⟩
          · exact ⟨n3.2.2, m1⟩
        have htk10 := seqT s6T htk
        refine ⟨T, [.ref cc, .ref tk], rfl, SqT.of gT, rfl, .ref cc, [.ref tk], rfl, .ref tk, [], rfl, rfl, ?_⟩
        refine ⟨_, rfl, _, rfl, _, rfl, tk, _, 0, _, rfl, rfl, htk10, rfl, _, rfl, tk, _, 1, _, rfl, rfl, htk10, rfl, _, rfl, tk, _, 2, _, rfl, rfl, htk10, rfl, d, cc, ats, u', rfl, own.same (((s2.trans s3).trans s4).trans (s5.trans (s56.trans s6T))), qt.few, dist, good.txok, hch2.same s6T, um.1, um.2, fun H11 s11 => ?_⟩
        exact ⟨_, rfl, iteF ⟨_, _, rfl, s6T.trans s11⟩⟩
      · rintro σ H9 ⟨y10, y11, rfl, s9⟩
        have s59 := s56.trans s9
        have qt9 := qt5.same s59
        refine ⟨_, rfl, _, rfl, _, rfl, q, tl, a6, ats, T, x, rfl, qt9, td5.same s59, ht, fun H10 s10 => ⟨true, true, rfl, rfl, _, rfl, ?_⟩⟩
        refine iteF ?_
        refine ⟨_, rfl, _, rfl, q, tl, ats, T, x, rfl, qt9.same s10, hl, ht, fun H11 a11 v11 s11 h11 td11 => ?_⟩
        have td12 := td11
        obtain ⟨b11, _, _, _, rfl, _⟩ := td11
        refine ⟨_, rfl, _, _, _, _, true, rfl, .ty "tuple", tyX_tup (SqT.of h11), kit_tt, _, rfl, iteT ?_⟩
        refine ⟨_, rfl, a11, _, 0, .str "none", rfl, rfl, SqT.of h11, rfl, rfl, _, rfl, ?_⟩
        rw [decide_eq_true rfl]
        refine iteT ?_
        refine ⟨_, rfl, _, rfl, _, rfl, a11, _, 1, .ref b11, rfl, rfl, SqT.of h11, rfl, q, tl, b11, ats, T, x, rfl, (qt9.same s10).same s11, td12, ht, fun H12 s12 => ?_⟩
        exact ⟨true, true, rfl, rfl, fin H12 ((((s15.trans s59).trans s10).trans s11).trans s12)⟩
end
end Cut
set_option Elab.async false
set_option linter.all false
set_option maxRecDepth 100000
set_option maxHeartbeats 8000000
namespace Cut
open PySem PySem.Spec PyProof.Rows L2
open RZ
/-! ### some tables of a question, by their names -/
theorem sub_idx : ∀ {xs ys : List Str}, xs.Sublist ys → ∃ T : List Nat, T.Pairwise (· < ·) ∧ (∀ k ∈ T, k < ys.length) ∧ T.map (ys.getD · "") = xs
  | _, _, .slnil => ⟨[], List.Pairwise.nil, by simp, rfl⟩
  | _, _, .cons (l₂ := ys) y h => by
    obtain ⟨T, h1, h2, h3⟩ := sub_idx h
    refine ⟨T.map (· + 1), List.pairwise_map.mpr (h1.imp fun h => by omega), fun k hk => ?_, ?_⟩
    · obtain ⟨j, hj, rfl⟩ := List.mem_map.mp hk
      have := h2 j hj
      rw [List.length_cons]
      omega
    · rw [List.map_map, ← h3]
      exact List.map_congr_left fun j _ => rfl
  | _, _, .cons₂ (l₂ := ys) y h => by
    obtain ⟨T, h1, h2, h3⟩ := sub_idx h
    refine ⟨0 :: T.map (· + 1), List.pairwise_cons.mpr ⟨fun k hk => ?_, List.pairwise_map.mpr (h1.imp fun h => by omega)⟩, fun k hk => ?_, ?_⟩
    · obtain ⟨j, _, rfl⟩ := List.mem_map.mp hk
      exact Nat.succ_pos j
    · rw [List.length_cons]
      rcases List.mem_cons.mp hk with rfl | hk
      · omega
      · obtain ⟨j, hj, rfl⟩ := List.mem_map.mp hk
        have := h2 j hj
        omega
    · rw [List.map_cons, List.map_map, ← h3]
      refine congrArg _ (List.map_congr_left fun j _ => rfl)
theorem tab_name {ats : List Atm} {i : Nat} (h : i < ats.length) : (ats.map (·.1)).getD i ("" : Str) = tabAt ats i := by
  rw [tab_get (List.getElem?_eq_getElem h), List.getD_eq_getElem?_getD, List.getElem?_map, List.getElem?_eq_getElem h]
  rfl
theorem qt_of {K : PySem.W.Frag} {H : Hp} {q tl : Addr} {head : List Str} {ats : List Atm} (g : GoodQ ats) (hq : QAt K H q head ats) {xs : List Str} (sub : xs.Sublist (ats.map (·.1))) (h : SqT K H tl (xs.map V.str)) : ∃ T, QTb K H q tl ats T := by
  obtain ⟨T, h1, h2, h3⟩ := sub_idx sub
  have h2' : ∀ k ∈ T, k < ats.length := fun k hk => by
    have := h2 k hk
    rw [List.length_map] at this
    exact this
  refine ⟨T, ⟨head, hq⟩, g.few6, g.dist, ?_, h1, h2'⟩
  have e : xs.map V.str = tabsV ats T := by
    rw [← h3, List.map_map]
    exact List.map_congr_left fun k hk => by
      show V.str ((ats.map (·.1)).getD k ("" : Str)) = _
      rw [tab_name (h2' k hk)]
  rw [← e]
  exact h
theorem good_filter {ats : List Atm} (g : GoodQ ats) (p : Atm → Bool) (one : 1 ≤ (ats.filter p).length) : GoodQ (ats.filter p) :=
  ⟨one, Nat.le_trans (List.length_filter_le _ _) g.many, fun t ht => g.few t (List.mem_filter.mp ht).1, fun t ht => g.parts t (List.mem_filter.mp ht).1, List.Nodup.sublist (List.Sublist.map _ List.filter_sublist) g.dist, fun t ht => g.tabs t (List.mem_filter.mp ht).1⟩
theorem filter_sub : ∀ {xs ys : List Str}, xs.Sublist ys → ys.Nodup → ys.filter (fun y => decide (y ∈ xs)) = xs
  | _, _, .slnil, _ => rfl
  | xs, _, .cons (l₂ := ys) y h, nd => by
    obtain ⟨n1, n2⟩ := List.nodup_cons.mp nd
    rw [List.filter_cons_of_neg (by simpa using fun m => n1 (h.subset m))]
    exact filter_sub h n2
  | _, _, .cons₂ (l₁ := xs) (l₂ := ys) y h, nd => by
    obtain ⟨n1, n2⟩ := List.nodup_cons.mp nd
    rw [List.filter_cons_of_pos (by simp)]
    refine congrArg _ ?_
    rw [← filter_sub h n2]
    refine List.filter_congr fun z hz => ?_
    have ne : z ≠ y := fun e => n1 (e ▸ hz)
    rw [decide_eq_decide, filter_sub h n2]
    simp [ne]
theorem part_names_are {ats : List Atm} (nd : (ats.map (·.1)).Nodup) {xs : List Str} (sub : xs.Sublist (ats.map (·.1))) : (ats.filter (inP xs)).map (·.1) = xs := by
  have e := filter_sub sub nd
  rw [List.filter_map] at e
  exact e
theorem piece_sub {ats : List Atm} {xs : List Str} (h : xs ∈ piecesN ats) : xs.Sublist (ats.map (·.1)) ∧ 1 ≤ xs.length := by
  rw [piecesN_eq] at h
  obtain ⟨g, hg, rfl⟩ := List.mem_map.mp h
  obtain ⟨i, hi, rfl⟩ := List.mem_map.mp hg
  have hi' : i < ats.length := (mem_leastN.mp hi).1
  refine ⟨?_, ?_⟩
  · have e : ats.map (·.1) = (List.range ats.length).map (tabAt ats) := by
      refine List.ext_getElem (by simp) fun j h1 h2 => ?_
      rw [List.getElem_map, List.getElem_map, List.getElem_range, tab_get (List.getElem?_eq_getElem (by simpa using h1))]
    rw [e]
    exact List.Sublist.map _ List.filter_sublist
  · rw [List.length_map]
    have m : i ∈ compN ats i := mem_compN.mpr (.refl hi')
    exact List.length_pos_of_mem m
end Cut
set_option Elab.async false
set_option linter.all false
set_option maxRecDepth 100000
set_option maxHeartbeats 8000000
namespace Cut
open PySem PySem.Spec PyProof.Rows L2
open RZ
/-! ### the law's own def -/
theorem PricesAt.but {H H' : Hp} {a d : Addr} {l : List V} {ats : List Atm} {ps : List (Str × V)} (x : PricesAt H d ats ps) (e : But a H H') (ha : H a = some (.lst l)) : PricesAt H' d ats ps :=
  ⟨e _ _ (fun z => by have h := x.at_; rw [z, ha] at h; cases h) x.at_, x.perm, x.ok⟩
abbrev NLw : List Str := ["script", "pot", "turn", "question", "prices", "piece", "part", "rule", "tables", "one", "some"]
theorem scLaw : FnScope NLw ["script"] (defScope sLaw) := ⟨rfl, rfl, rfl, by decide +kernel, rfl, by decide +kernel, by decide +kernel⟩
def bodyW : List Stmt := forBody ((defBody sLaw).getD 1 (.Pass ⟨0, 0, 0, 0⟩))
def bodyP : List Stmt := forBody (bodyW.getD 2 (.Pass ⟨0, 0, 0, 0⟩))
section
variable {P : Program} {w : World} {K : PySem.W.Frag} {mg : Str → Option Value} {base : Heap} {f : Addr} {cdv : Value} {A : Around} {outer : List Env} {s : Shared} {H0 : Hp} {E : XK}
theorem tailB (B : Blt mg) (hg : Gd (A.deeper (envOfC "law" (defScope sLaw) s.heap.objs.size f cdv))) (hr : Room 13 (A.deeper (envOfC "law" (defScope sLaw) s.heap.objs.size f cdv)))
    (CR : CanG P w K mg base "_law_right" ["question", "tables"] 13 (spRight K)) (CG : Can P w K mg base "ruling" ["question", "prices"] 6 (spRuling K)) (CD : Can P w K mg base "_law_below" ["pot", "bound"] 2 spBelow) :
    ∃ t : TS, PSs (cxOf CX0 P w K mg base NLw "law" (defScope sLaw) f cdv A outer s H0 E).nox (bodyP.drop 1) t ∧ ∀ (D : Ends) (H : Hp) (a b : Addr) (n : Int) (q pr pc pa : Addr) (head' : List Str) (ats ats' : List Atm) (ps : List (Str × V)) (xs : List Str) (x0 x2 x7 x8 x10 : Option V),
      PotN H a b n → n + 100 < 2 ^ 40 → QAt K H q [] ats → PricesAt H pr ats ps → GoodQ ats → SqT K H pc (xs.map V.str) → QAt K H pa head' ats' → GoodQ ats' → xs.Sublist (ats'.map (·.1)) → 1 ≤ xs.length →
      (∀ H' y7 y8 y10, But a H H' → PotN H' a b (n + 10) → D.nx [x0, some (.ref a), x2, some (.ref q), some (.ref pr), some (.ref pc), some (.ref pa), y7, y8, none, y10] H') →
      t D [x0, some (.ref a), x2, some (.ref q), some (.ref pr), some (.ref pc), some (.ref pa), x7, x8, none, x10] H := by
  have nd := scLaw.nd
  have hr6 : Room 6 _ := hr.mono (by decide)
  have hr2 : Room 2 _ := hr.mono (by decide)
  have ln : ∀ n : Nat, n ≤ 1000 → n ≤ sizeLine := fun n h => Nat.le_of_lt (small1000 h)
  refine ⟨_, pss_cons (ps_set (i := 7) nd rfl (.inr rfl) (pe_can CG hr6 (by rfl) (pa_cons (pv 3) (pa_cons (pv 4) pa_nil))))
    (pss_cons (ps_for PassesOwn.never rfl (pi_tup (pe_tup (pa_cons (pv 5) (pa_cons (pe_slice sl_tupA (pv 5) (po_some pe_int) po_none) (pa_cons (pe_tupleOf (by rfl) B.tuple (pe_lc (own := [("one", 9)]) (g := gName 9) (tt := tTest (tOp (rIn K false) (tVar 9) (tVar 7))) (te := tVar 9) (by rfl) nd (pi_tup (pv 5)) (blkOk_by (own := [("one", 9)]) (N := NLw) (sc := defScope sLaw) (by decide +kernel))
        (fun _ _ _ _ _ => pg_name (i := 9) nd rfl (Or.inl rfl)) (fun _ _ _ _ _ => pts_one (pt_cmpR op_in_seq (pv 9) (pv 7) (by rfl))) (fun _ _ _ _ _ => pv 9))) pa_nil))))) (pg_name (i := 8) nd rfl (.inl rfl))
      (pss_one (ps_if (pt_not (pt_val (pe_canG CR hg hr (by rfl) (pa_cons (pv 6) (pa_cons (pv 8) pa_nil))))) (pss_one (ps_ret pe_bl)) pss_nil)))
    (pss_cons (ps_set (i := 10) nd rfl (.inl rfl) (pe_tupleOf (by rfl) B.tuple (pe_lc (own := [("one", 9)]) (g := gName 9) (tt := tTest (tOp rEq (tCall spBelow [] E0 (tCons (tVar 1) (tCons (tC (.int 2)) tNil))) (tC (.int 0)))) (te := tVar 9) (by rfl) nd (pi_tup (pv 5)) (blkOk_by (own := [("one", 9)]) (N := NLw) (sc := defScope sLaw) (by decide +kernel))
        (fun _ _ _ _ _ => pg_name (i := 9) nd rfl (Or.inl rfl)) (fun _ _ _ _ _ => pts_one (pt_cmpR op_eq (pe_can CD hr2 (by rfl) (pa_cons (pv 1) (pa_cons pe_int pa_nil))) pe_int (nomark _))) (fun _ _ _ _ _ => pv 9))))
    (pss_one (ps_if (pt_not (pt_val (pe_canG CR hg hr (by rfl) (pa_cons (pv 6) (pa_cons (pv 10) pa_nil))))) (pss_one (ps_ret pe_bl)) pss_nil)))), ?_⟩
  intro D H a b n q pr pc pa head' ats ats' ps xs x0 x2 x7 x8 x10 pot hn hq hp good hpc hqa good' sub ne nx
  have x6 : xs.length ≤ 6 := by
    have h1 := sub.length_le
    rw [List.length_map] at h1
    have := good'.many
    omega
  refine ⟨_, rfl, _, rfl, q, pr, [], ats, ps, rfl, hq, hp, good, fun H1 rl s1 n1 hrl => ?_⟩
  rw [← tabsOf_V] at hrl
  generalize tabsOf ats (firstN ats ps) = R at hrl
  have hpc1 := seqT s1 hpc
  refine ⟨_, rfl, _, rfl, 1, rfl, pc, _, rfl, hpc1, fun hw => ?_, fun _ z nz => ?_⟩
  · exfalso
    have := hw.1
    rw [show ((1 : Int)) = ((1 : Nat) : Int) from rfl, HT.sIx_nat, List.length_map] at this
    omega
  rw [show ((1 : Int)) = ((1 : Nat) : Int) from rfl, cut_drop]
  have s2 : Same H1 (upd H1 z (.tup ((xs.map V.str).drop 1))) := same_new nz
  have hz : upd H1 z (.tup ((xs.map V.str).drop 1)) z = some (.tup ((xs.drop 1).map V.str)) := by rw [upd_same, List.map_drop]
  generalize upd H1 z (.tup ((xs.map V.str).drop 1)) = H2 at s2 hz ⊢
  have s12 := s1.trans s2
  refine ⟨_, rfl, pc, rfl, ⟨_, seqT s12 hpc⟩, fun L nL => ?_⟩
  refine walk_tup (xs := xs.map V.str) (fun k H7 => Same H2 H7 ∧ H7 L = some (.lst (((xs.take k).filter fun y => decide (y ∈ R)).map V.str))) ⟨same_new nL, upd_same⟩ (fun k H7 _ h => seqT (s12.trans h.1) hpc) ?_ ?_
  · rintro k x H7 hx ⟨sm, hL⟩
    rw [List.getElem?_map] at hx
    obtain ⟨y, hy, rfl⟩ := Option.map_eq_some_iff.mp hx
    have ft := filter_take (fun y => decide (y ∈ R)) xs k y hy
    have sL : (((xs.take k).filter fun y => decide (y ∈ R)).map V.str).length < sizeLine := by
      rw [List.length_map]
      refine small1000 (Nat.le_trans (List.length_filter_le _ _) ?_)
      rw [List.length_take]
      omega
    refine ⟨rfl, ?_⟩
    refine ⟨_, rfl, _, rfl, rl, _, rfl, .inr (SqT.of ((s2.trans sm) _ _ hrl)), rfl, flat_strs' _, _, rfl, ?_⟩
    rw [if_neg Bool.false_ne_true, inV_str]
    by_cases c : y ∈ R
    · rw [decide_eq_true c] at ft ⊢
      refine iteT ⟨_, rfl, _, hL, sL, fun b o e => ?_, ?_⟩
      · rw [upd_ne (ne_of_none e nL)]
        exact sm _ _ e
      · rw [upd_same, ft, if_pos rfl, List.map_append]
        rfl
    · rw [decide_eq_false c] at ft ⊢
      refine iteF ⟨sm, ?_⟩
      rw [ft, if_neg Bool.false_ne_true, List.append_nil]
      exact hL
  rintro H3 ⟨s3, hL⟩
  rw [List.length_map, List.take_length] at hL
  refine .inl ⟨L, _, rfl, SqL.of hL, fun r nr => ⟨ln 3 (by decide), fun t nt => ?_⟩⟩
  have s4 : Same H3 (upd H3 r (.tup ((xs.filter fun y => decide (y ∈ R)).map V.str))) := same_new nr
  have hr4 : upd H3 r (.tup ((xs.filter fun y => decide (y ∈ R)).map V.str)) r = some (.tup ((xs.filter fun y => decide (y ∈ R)).map V.str)) := upd_same
  generalize upd H3 r (.tup ((xs.filter fun y => decide (y ∈ R)).map V.str)) = H4 at s4 hr4 nt ⊢
  have s5 : Same H4 (upd H4 t (.tup [.ref pc, .ref z, .ref r])) := same_new nt
  have ht5 : upd H4 t (.tup [.ref pc, .ref z, .ref r]) t = some (.tup [.ref pc, .ref z, .ref r]) := upd_same
  generalize upd H4 t (.tup [.ref pc, .ref z, .ref r]) = H5 at s5 ht5 ⊢
  have s25 := (s3.trans s4).trans s5
  have s05 := s12.trans s25
  have all : Paired (fun v ys => TxtAt K H5 v ys ∧ ys.Sublist xs) [.ref pc, .ref z, .ref r] [xs, xs.drop 1, xs.filter fun y => decide (y ∈ R)] :=
    .cons ⟨⟨pc, rfl, seqT s05 hpc⟩, List.Sublist.refl _⟩ (.cons ⟨⟨z, rfl, SqT.of (s25 _ _ hz)⟩, List.drop_sublist 1 xs⟩ (.cons ⟨⟨r, rfl, SqT.of (s5 _ _ hr4)⟩, List.filter_sublist⟩ .nil))
  refine ⟨t, rfl, ⟨_, SqT.of ht5⟩, ?_⟩
  refine for_tup (xs := [.ref pc, .ref z, .ref r]) (fun k σ H' => ∃ y7 y8, σ = [x0, some (.ref a), x2, some (.ref q), some (.ref pr), some (.ref pc), some (.ref pa), y7, y8, none, x10] ∧ Same H5 H')
    ⟨_, x8, rfl, Same.refl H5⟩ (fun k σ H' _ h => by obtain ⟨_, _, _, sm⟩ := h; exact SqT.of (sm _ _ ht5)) ?_ ?_
  · rintro k x σ H6 hx ⟨y7, y8, rfl, s6⟩
    obtain ⟨ys, hys, ⟨c, rfl, hc⟩, hsub⟩ := paired_get all hx
    have s06 := s05.trans s6
    obtain ⟨T, qt⟩ := qt_of good' (hqa.same s06) (hsub.trans sub) (seqT s6 hc)
    refine ⟨_, rfl, _, rfl, pa, c, ats', T, rfl, good', qt, fun H7 s7 => ?_⟩
    exact ⟨_, rfl, iteF ⟨_, _, rfl, s6.trans s7⟩⟩
  · rintro σ H6 ⟨y7, y8, rfl, s6⟩
    have s06 := s05.trans s6
    have pot6 := pot.same s06
    obtain ⟨l6, hl6⟩ := pot6.lst
    have hpc6 := seqT s06 hpc
    refine ⟨_, rfl, pc, rfl, ⟨_, hpc6⟩, fun M nM => ?_⟩
    obtain ⟨Ma, Mb⟩ := pot6.free nM
    have bM : But a H6 (upd H6 M (.lst [])) := Same.but (same_new nM)
    have pM : PotN (upd H6 M (.lst [])) a b n := pot6.same (same_new nM)
    refine walk_tup (xs := xs.map V.str) (fun k H7 => But a H6 H7 ∧ PotN H7 a b (n + k) ∧ ∃ ys : List Str, ys.Sublist (xs.take k) ∧ H7 M = some (.lst (ys.map V.str))) ⟨bM, pM.mono (by omega), [], List.nil_sublist _, upd_same⟩ (fun k H7 _ h => seqT_but h.1 hl6 hpc6) ?_ ?_
    · rintro k x H7 hx ⟨bt, pot7, ys, hys, hM⟩
      rw [List.getElem?_map] at hx
      obtain ⟨y, hy, rfl⟩ := Option.map_eq_some_iff.mp hx
      have hk := (List.getElem?_eq_some_iff.mp hy).1
      refine ⟨rfl, ?_⟩
      refine ⟨_, rfl, a, b, 2, _, rfl, pot7, by omega, by decide, ?_, fun rv H8 h0 h1 bt8 pot8 => ?_⟩
      · have : (2 : Nat) ^ 2 ≤ 2 ^ 8000 := Nat.pow_le_pow_right (by decide) (by decide)
        show 2 < 2 ^ 8000
        omega
      have hM8 := bt8 _ _ Ma hM
      have pk : PotN H8 a b (n + ((k + 1 : Nat) : Int)) := pot8.mono (by omega)
      refine ⟨rfl, _, rfl, ?_⟩
      have ly : ys.length ≤ 6 := by
        have := hys.length_le
        rw [List.length_take] at this
        omega
      by_cases c : V.int rv = V.int 0
      · rw [decide_eq_true c]
        refine iteT ⟨_, rfl, _, hM8, ?_, ?_, ?_, ys ++ [y], ?_, ?_⟩
        · rw [List.length_map]
          exact small1000 (by omega)
        · intro b o nb e
          have nM' : b ≠ M := ne_of_none e nM
          rw [upd_ne nM']
          exact bt8 _ _ nb (bt _ _ nb e)
        · exact pk.put Ma Mb
        · rw [List.take_add_one, hy]
          exact List.Sublist.append hys (List.Sublist.refl _)
        · rw [upd_same, List.map_append]
          rfl
      · rw [decide_eq_false c]
        refine iteF ⟨bt.trans bt8, pk, ys, hys.trans ?_, hM8⟩
        rw [List.take_add_one]
        exact List.sublist_append_left _ _
    · rintro H7 ⟨bt, pot7, ys, hys, hM⟩
      rw [List.length_map, List.take_length] at hys
      rw [List.length_map] at pot7
      refine .inl ⟨M, _, rfl, SqL.of hM, fun r' nr' => ?_⟩
      have s8 : Same H7 (upd H7 r' (.tup (ys.map V.str))) := same_new nr'
      have hr8 : upd H7 r' (.tup (ys.map V.str)) r' = some (.tup (ys.map V.str)) := upd_same
      generalize upd H7 r' (.tup (ys.map V.str)) = H8 at s8 hr8 ⊢
      obtain ⟨T, qt⟩ := qt_of good' (((hqa.same s06).but bt hl6).same s8) (hys.trans sub) (SqT.of hr8)
      refine ⟨_, rfl, _, rfl, pa, r', ats', T, rfl, good', qt, fun H9 s9 => ?_⟩
      refine ⟨_, rfl, iteF ?_⟩
      refine nx H9 _ _ _ ?_ ((pot7.same (s8.trans s9)).mono (by omega))
      exact ((Same.but (a := a) s06).trans bt).same (s8.trans s9)
end
end Cut
set_option Elab.async false
set_option linter.all false
set_option maxRecDepth 100000
set_option maxHeartbeats 8000000
namespace Cut
open PySem PySem.Spec PyProof.Rows L2
open RZ
theorem pieces_many (ats : List Atm) : (piecesN ats).length ≤ ats.length := by
  rw [piecesN_eq, List.length_map]
  exact comps_many ats
/-- all that the law's def calls -/
structure All (P : Program) (w : World) (K : PySem.W.Frag) (mg : Str → Option Value) (base : Heap) : Prop where
  right : CanG P w K mg base "_law_right" ["question", "tables"] 13 (spRight K)
  ruling : Can P w K mg base "ruling" ["question", "prices"] 6 (spRuling K)
  partBy : Can P w K mg base "_law_part_by" ["question", "piece"] 1 (spPartOf K)
  below : Can P w K mg base "_law_below" ["pot", "bound"] 2 spBelow
  pot : Can P w K mg base "_law_pot_of" ["script"] 1 (spPot K)
  someQ : Can P w K mg base "_law_some_question" ["pot"] 4 (spSomeQ K)
  someP : Can P w K mg base "_law_some_prices" ["pot", "question"] 4 (spSomeP K)
  all : Can P w K mg base "_law_all_pieces" ["question"] 2 (spAll K)
section
variable {P : Program} {w : World} {K : PySem.W.Frag} {mg : Str → Option Value} {base : Heap}
theorem tail0 {f : Addr} {cdv : Value} {A : Around} {outer : List Env} {s : Shared} {H0 : Hp} {E : XK} (B : Blt mg) (C : All P w K mg base) (hg : Gd (A.deeper (envOfC "law" (defScope sLaw) s.heap.objs.size f cdv))) (hr : Room 13 (A.deeper (envOfC "law" (defScope sLaw) s.heap.objs.size f cdv))) :
    ∃ t : TS, PSs (cxOf CX0 P w K mg base NLw "law" (defScope sLaw) f cdv A outer s H0 E).nox bodyW t ∧ ∀ (D : Ends) (H : Hp) (a b : Addr) (n : Int) (x0 x2 x3 x4 x5 x6 x7 x8 x10 : Option V),
      PotN H a b n → n + 600 < 2 ^ 40 →
      (∀ H' y3 y4 y5 y6 y7 y8 y10, PotN H' a b (n + 350) → D.nx [x0, some (.ref a), x2, y3, y4, y5, y6, y7, y8, none, y10] H') →
      t D [x0, some (.ref a), x2, x3, x4, x5, x6, x7, x8, none, x10] H := by
  have nd := scLaw.nd
  have hr1 : Room 1 _ := hr.mono (by decide)
  have hr2 : Room 2 _ := hr.mono (by decide)
  have hr4 : Room 4 _ := hr.mono (by decide)
  obtain ⟨tT, hT, fT⟩ := tailB (P := P) (w := w) (K := K) (mg := mg) (base := base) (f := f) (cdv := cdv) (A := A) (outer := outer) (s := s) (H0 := H0) (E := E) B hg hr C.right C.ruling C.below
  refine ⟨_, pss_cons (ps_set (i := 3) nd rfl (.inl rfl) (pe_can C.someQ hr4 (by rfl) (pa_cons (pv 1) pa_nil)))
    (pss_cons (ps_set (i := 4) nd rfl (.inl rfl) (pe_can C.someP hr4 (by rfl) (pa_cons (pv 1) (pa_cons (pv 3) pa_nil))))
    (pss_one (ps_for PassesOwn.never rfl (pi_tup (pe_can C.all hr2 (by rfl) (pa_cons (pv 3) pa_nil))) (pg_name (i := 5) nd rfl (.inl rfl))
      (pss_cons (ps_set (i := 6) nd rfl (.inl rfl) (pe_ifExp (pt_cmpR op_eq (pe_can C.below hr2 (by rfl) (pa_cons (pv 1) (pa_cons pe_int pa_nil))) pe_int (nomark _)) (pv 3) (pe_can C.partBy hr1 (by rfl) (pa_cons (pv 3) (pa_cons (pv 5) pa_nil)))))
      hT)))), ?_⟩
  intro D H a b n x0 x2 x3 x4 x5 x6 x7 x8 x10 pot hn nx
  refine ⟨_, rfl, a, b, n, rfl, pot, by omega, fun H1 q nm ats0 bt1 nq pot1 raw one hnm hq1 => ?_⟩
  have good := raw.good one hnm
  generalize ats0.map (subA nm) = ats at good hq1
  refine ⟨_, rfl, _, rfl, a, b, q, n + 100, [], ats, rfl, pot1, by omega, hq1, good.many, good.dist, good.tabs, fun H2 pr ps bt2 npr pot2 hpr perm okp => ?_⟩
  obtain ⟨l1, hl1⟩ := pot1.lst
  have hq2 := hq1.but bt2 hl1
  have hp2 : PricesAt H2 pr ats ps := ⟨hpr, perm, okp⟩
  refine ⟨_, rfl, q, [], ats, rfl, hq2, good, fun H4 du rs s4 n4 hdu hrs => ?_⟩
  have pot4 := pot2.same s4
  obtain ⟨l4, hl4⟩ := pot4.lst
  have hq4 := hq2.same s4
  have hp4 := hp2.same s4
  have lrs := paired_len hrs
  have pm := pieces_many ats
  have fm := good.many
  refine ⟨du, rfl, ⟨_, SqT.of hdu⟩, ?_⟩
  refine for_tup (xs := rs) (fun k σ H' => ∃ y5 y6 y7 y8 y10, σ = [x0, some (.ref a), x2, some (.ref q), some (.ref pr), y5, y6, y7, y8, none, y10] ∧ But a H4 H' ∧ PotN H' a b (n + 200 + 20 * k))
    ⟨x5, x6, x7, x8, x10, rfl, But.refl a H4, pot4.mono (by omega)⟩ (fun k σ H' _ h => by obtain ⟨_, _, _, _, _, _, bt, _⟩ := h; exact seqT_but bt hl4 (SqT.of hdu)) ?_ ?_
  · rintro k x σ H5 hx ⟨y5, y6, y7, y8, y10, rfl, bt, pot5⟩
    have hk := (List.getElem?_eq_some_iff.mp hx).1
    obtain ⟨xs, hxs, pc, rfl, hpc⟩ := paired_get hrs hx
    obtain ⟨sub, ne⟩ := piece_sub (List.mem_of_getElem? hxs)
    have hpc5 := seqT_but bt hl4 hpc
    have hq5 := hq4.but bt hl4
    have hp5 := hp4.but bt hl4
    obtain ⟨l5, hl5⟩ := pot5.lst
    refine ⟨_, rfl, a, b, 2, _, rfl, pot5, by omega, by decide, ?_, fun rv H6 h0 h1 bt6 pot6 => ?_⟩
    · have : (2 : Nat) ^ 2 ≤ 2 ^ 8000 := Nat.pow_le_pow_right (by decide) (by decide)
      show 2 < 2 ^ 8000
      omega
    have hq6 := hq5.but bt6 hl5
    have hp6 := hp5.but bt6 hl5
    have hpc6 := seqT_but bt6 hl5 hpc5
    refine ⟨rfl, _, rfl, ?_⟩
    by_cases c : V.int rv = V.int 0
    · rw [decide_eq_true c]
      refine iteT ⟨_, rfl, ?_⟩
      refine fT _ H6 a b (n + 200 + 20 * k + 1) q pr pc q [] ats ats ps xs _ _ _ _ _ pot6 (by omega) hq6 hp6 good hpc6 hq6 good sub ne fun H' z7 z8 z10 bt' pot' => ?_
      exact ⟨_, _, z7, z8, z10, rfl, (bt.trans bt6).trans bt', pot'.mono (by omega)⟩
    · rw [decide_eq_false c]
      refine iteF ⟨_, rfl, _, rfl, q, pc, [], ats, xs, rfl, hq6, good.few6, hpc6, fun H7 pa s7 n7 hpa => ?_⟩
      have names := part_names_are good.dist sub
      have one' : 1 ≤ (ats.filter (inP xs)).length := by
        have := congrArg List.length names
        rw [List.length_map] at this
        omega
      refine fT _ H7 a b (n + 200 + 20 * k + 1) q pr pc pa [] ats (ats.filter (inP xs)) ps xs _ _ _ _ _ (pot6.same s7) (by omega) (hq6.same s7) (hp6.same s7) good (seqT s7 hpc6) hpa (good_filter good _ one') (by rw [names]; exact List.Sublist.refl _) ne fun H' z7 z8 z10 bt' pot' => ?_
      exact ⟨_, _, z7, z8, z10, rfl, ((bt.trans bt6).same s7).trans bt', pot'.mono (by omega)⟩
  · rintro σ H5 ⟨y5, y6, y7, y8, y10, rfl, bt, pot5⟩
    exact nx H5 _ _ _ _ _ _ _ (pot5.mono (by omega))
def spLaw (K : PySem.W.Frag) : Sp := fun vs H Q _ => ∃ (a : Addr) (ns : List Int), vs = [.ref a] ∧ SqL K H a (ns.map V.int) ∧ ∀ H', Q (.bl true) H'
theorem ok_law {f : Addr} {fd : FuncData} (F : Fun K "law" "law" sLaw f fd) (B : Blt mg) (C : All P w K mg base) : FnG P w K mg base CX0 14 f fd ["script"] (spLaw K) := by
  refine okG F scLaw (fun vs H Q E h => ?_) (fun cdv A outer s H vs Q E hg hr h => ?_)
  · obtain ⟨a, ns, rfl, _⟩ := h
    rfl
  · obtain ⟨sc, ns, rfl, hS, q⟩ := h
    have nd := scLaw.nd
    have hr1 : Room 1 _ := hr.mono (by decide)
    obtain ⟨tT, hT, fT⟩ := tail0 (P := P) (w := w) (K := K) (mg := mg) (base := base) (f := f) (cdv := cdv) (A := A) (outer := outer) (s := s) (H0 := H) (E := E) B C hg hr
    refine ⟨_, PSs.nox (pss_cons (ps_set (i := 1) nd rfl (.inr rfl) (pe_can C.pot hr1 (by rfl) (pa_cons (pv 0) pa_nil)))
      (pss_cons (ps_for PassesOwn.never rfl (pi_range1 (by rfl) B.range (pa_cons pe_int pa_nil)) (pg_name (i := 2) nd rfl (.inl rfl)) hT)
      (pss_one (ps_ret pe_bl)))), ?_⟩
    refine ⟨_, rfl, sc, ns, rfl, hS, fun H1 a b s1 na nb pot => ?_⟩
    refine ⟨_, rfl, by decide, by decide, ?_⟩
    refine for_rng (lo := 0) (n := (12 : Int).toNat) (fun i σ H' => ∃ y2 y3 y4 y5 y6 y7 y8 y10, σ = [some (.ref sc), some (.ref a), y2, y3, y4, y5, y6, y7, y8, none, y10] ∧ PotN H' a b (350 * i))
      ⟨none, none, none, none, none, none, none, none, rfl, pot.mono (by omega)⟩ ?_ ?_
    · rintro i σ H2 hi ⟨y2, y3, y4, y5, y6, y7, y8, y10, rfl, p2⟩
      have hi' : i < 12 := hi
      refine fT _ H2 a b (350 * i) _ _ _ _ _ _ _ _ _ p2 ?_ fun H' z3 z4 z5 z6 z7 z8 z10 p => ⟨_, z3, z4, z5, z6, z7, z8, z10, rfl, p.mono (by omega)⟩
      have : (2 : Int) ^ 40 = 1099511627776 := by decide
      omega
    · rintro σ H2 ⟨y2, y3, y4, y5, y6, y7, y8, y10, rfl, p2⟩
      exact q H2
end
end Cut
set_option Elab.async false
set_option linter.all false
set_option maxRecDepth 100000
set_option maxHeartbeats 4000000
namespace Cut
open PySem PySem.Spec PyProof.Rows L2
/-! ### what the written part says of a class of errors, by one look -/
def excIs (K : PySem.W.Frag) (C : Addr) : Bool :=
  PySem.W.findIn K (.ref C) "__getattribute__" == some (some (.builtin "BaseException.__getattribute__")) && (PySem.W.findIn K (.ref C) "__getattr__" == some none &&
  (PySem.W.subIn K (.ref C) (.type "BaseException") == some true && (PySem.W.hasDictIn K C && (PySem.W.findIn K (.ref C) "__class__" == some (some (.builtin "object.__class__")) &&
  (PySem.W.specialIn K (.builtin "object.__class__") "__get__" == some (some (.builtin "getset_descriptor.__get__")) && (PySem.W.takesIn K (.builtin "object.__class__") == some true && PySem.W.mroIn K C (.type "object") == some true))))))
theorem excIs_of {K : PySem.W.Frag} {C : Addr} (h : excIs K C = true) : ExcC K C := by
  unfold excIs at h
  simp only [Bool.and_eq_true, beq_iff_eq] at h
  obtain ⟨h1, h2, h3, h4, h5, h6, h7, h8⟩ := h
  exact ⟨h1, h2, h3, h4, h5, h6, h7, h8⟩
def ownIs (K : PySem.W.Frag) (C : Addr) : Bool := match K.lookup C with
  | some ⟨.type "type", _, .cls cd, sl⟩ => (match cd.mro, sl.toList with
    | .ref C' :: bm, [_, _, _, _, some (.builtin n), _] => C' == C && (n == "ValueError.__new__" && (!cd.hasDel && (cd.hasDict && PySem.HandSPX.refsVE bm)))
    | _, _ => false)
  | _ => false
def oexIs (K : PySem.W.Frag) (C : Addr) : Bool := ownIs K C && (PySem.W.findIn K (.ref C) "__setattr__" == some (some (.builtin "object.__setattr__")) && (PySem.W.subIn K (.ref C) (.type "BaseException") == some true &&
  (PySem.W.typeIn K (.ref C) == some (.type "type") && PySem.W.keepIn K (.ref C))))
theorem oexIs_of {K : PySem.W.Frag} {C : Addr} (h : oexIs K C = true) : OexC K C := by
  unfold oexIs at h
  simp only [Bool.and_eq_true, beq_iff_eq] at h
  obtain ⟨h0, h1, h2, h3, h4⟩ := h
  refine ⟨?_, h1, h2, h3, h4⟩
  unfold ownIs at h0
  split at h0
  · rename_i dd cd sl look
    split at h0
    · rename_i C' bm k0 k1 k2 k3 n k5 em es
      simp only [Bool.and_eq_true, beq_iff_eq, Bool.not_eq_true'] at h0
      obtain ⟨rfl, rfl, nodel, hasd, refs⟩ := h0
      obtain ⟨nm, bs, mro, ns, qn, hd, sn, sub, ab, col, del⟩ := cd
      dsimp only at em nodel hasd
      subst em nodel hasd
      have hsl : sl = #[k0, k1, k2, k3, some (.builtin "ValueError.__new__"), k5] := by
        obtain ⟨l⟩ := sl
        simp only at es
        rw [es]
      subst hsl
      exact ⟨nm, qn, ns, bs, bm, sn, sub, ab, col, dd, k0, k1, k2, k3, k5, look, refs⟩
    · cases h0
  · cases h0
end Cut
set_option Elab.async false
set_option linter.all false
set_option maxRecDepth 100000
set_option maxHeartbeats 8000000
namespace Cut
open PySem PySem.Spec PyProof.Rows L2
/-! ### what the top has written -/
theorem all_mk {l : PySem.W.OpenLaw} {w : World} {K : PySem.W.Frag} {h : Heap} {mg : Str → Option Value} {fa : Addr} (X : K.In h) (G : h.Ns mainGlobals mg) (hfa : mg "law" = some (.ref fa))
    {fPN fPI fTO fLT fRG fRB fAT fRD fRU fNB fLO fTR fNL fSL fST fIO fTU fIL fIT fRA fRP fTP fCH fIC fTA fKN fPT fBE fPK fSA fSH fSQ fSP fOW fRE fAP fPB fDP fFL fGR fIE fFT fLC fNP fRI fLW : Addr} {odPN anPN odPI anPI odTO anTO odLT anLT odRG anRG odRB anRB odAT anAT odRD anRD odRU anRU odNB anNB odLO anLO odTR anTR odNL anNL odSL anSL odST anST odIO anIO odTU anTU odIL anIL odIT anIT odRA anRA odRP anRP odTP anTP odCH anCH odIC anIC odTA anTA odKN anKN odPT anPT odBE anBE odPK anPK odSA anSA odSH anSH odSQ anSQ odSP anSP odOW anOW odRE anRE odAP anAP odPB anPB odDP anDP odFL anFL odGR anGR odIE anIE odFT anFT odLC anLC odNP anNP odRI anRI odLW anLW : Option Addr} {slPN slPI slTO slLT slRG slRB slAT slRD slRU slNB slLO slTR slNL slSL slST slIO slTU slIL slIT slRA slRP slTP slCH slIC slTA slKN slPT slBE slPK slSA slSH slSQ slSP slOW slRE slAP slPB slDP slFL slGR slIE slFT slLC slNP slRI slLW : Array (Option Value)} {ocPN kVPN dcPN pmPN cdPN ctPN ocPI kVPI dcPI pmPI cdPI ctPI ocTO kVTO dcTO pmTO cdTO ctTO ocLT kVLT dcLT pmLT cdLT ctLT ocRG kVRG dcRG pmRG cdRG ctRG ocRB kVRB dcRB pmRB cdRB ctRB ocAT kVAT dcAT pmAT cdAT ctAT ocRD kVRD dcRD pmRD cdRD ctRD ocRU kVRU dcRU pmRU cdRU ctRU ocNB kVNB dcNB pmNB cdNB ctNB ocLO kVLO dcLO pmLO cdLO ctLO ocTR kVTR dcTR pmTR cdTR ctTR ocNL kVNL dcNL pmNL cdNL ctNL ocSL kVSL dcSL pmSL cdSL ctSL ocST kVST dcST pmST cdST ctST ocIO kVIO dcIO pmIO cdIO ctIO ocTU kVTU dcTU pmTU cdTU ctTU ocIL kVIL dcIL pmIL cdIL ctIL ocIT kVIT dcIT pmIT cdIT ctIT ocRA kVRA dcRA pmRA cdRA ctRA ocRP kVRP dcRP pmRP cdRP ctRP ocTP kVTP dcTP pmTP cdTP ctTP ocCH kVCH dcCH pmCH cdCH ctCH ocIC kVIC dcIC pmIC cdIC ctIC ocTA kVTA dcTA pmTA cdTA ctTA ocKN kVKN dcKN pmKN cdKN ctKN ocPT kVPT dcPT pmPT cdPT ctPT ocBE kVBE dcBE pmBE cdBE ctBE ocPK kVPK dcPK pmPK cdPK ctPK ocSA kVSA dcSA pmSA cdSA ctSA ocSH kVSH dcSH pmSH cdSH ctSH ocSQ kVSQ dcSQ pmSQ cdSQ ctSQ ocSP kVSP dcSP pmSP cdSP ctSP ocOW kVOW dcOW pmOW cdOW ctOW ocRE kVRE dcRE pmRE cdRE ctRE ocAP kVAP dcAP pmAP cdAP ctAP ocPB kVPB dcPB pmPB cdPB ctPB ocDP kVDP dcDP pmDP cdDP ctDP ocFL kVFL dcFL pmFL cdFL ctFL ocGR kVGR dcGR pmGR cdGR ctGR ocIE kVIE dcIE pmIE cdIE ctIE ocFT kVFT dcFT pmFT cdFT ctFT ocLC kVLC dcLC pmLC cdLC ctLC ocNP kVNP dcNP pmNP cdNP ctNP ocRI kVRI dcRI pmRI cdRI ctRI ocLW kVLW dcLW pmLW cdLW ctLW : Value}
    {C CA fIP : Addr} {odIP anIP : Option Addr} {slIP : Array (Option Value)} {ocIP kVIP dcIP pmIP cdIP ctIP : Value}
    (aPN : PySem.W.nsIn K mainGlobals "part_names" = some (some (.ref fPN))) (lPN : K.lookup fPN = some ⟨ocPN, odPN, .func (PySem.W.fnOf "part_names" "part_names" (defArgs sPartNames) (defBody sPartNames) (defScope sPartNames) .none kVPN dcPN pmPN anPN cdPN ctPN), slPN⟩) (cPN : PySem.W.codeIn K cdPN "part_names" = true) (kPN : PySem.W.keepIn K (.ref fPN) = true)
    (aPI : PySem.W.nsIn K mainGlobals "pieces" = some (some (.ref fPI))) (lPI : K.lookup fPI = some ⟨ocPI, odPI, .func (PySem.W.fnOf "pieces" "pieces" (defArgs sPieces) (defBody sPieces) (defScope sPieces) .none kVPI dcPI pmPI anPI cdPI ctPI), slPI⟩) (cPI : PySem.W.codeIn K cdPI "pieces" = true) (kPI : PySem.W.keepIn K (.ref fPI) = true)
    (aTO : PySem.W.nsIn K mainGlobals "_touches" = some (some (.ref fTO))) (lTO : K.lookup fTO = some ⟨ocTO, odTO, .func (PySem.W.fnOf "_touches" "_touches" (defArgs sTouches) (defBody sTouches) (defScope sTouches) .none kVTO dcTO pmTO anTO cdTO ctTO), slTO⟩) (cTO : PySem.W.codeIn K cdTO "_touches" = true) (kTO : PySem.W.keepIn K (.ref fTO) = true)
    (aLT : PySem.W.nsIn K mainGlobals "loose_tables" = some (some (.ref fLT))) (lLT : K.lookup fLT = some ⟨ocLT, odLT, .func (PySem.W.fnOf "loose_tables" "loose_tables" (defArgs sLooseT) (defBody sLooseT) (defScope sLooseT) .none kVLT dcLT pmLT anLT cdLT ctLT), slLT⟩) (cLT : PySem.W.codeIn K cdLT "loose_tables" = true) (kLT : PySem.W.keepIn K (.ref fLT) = true)
    (aRG : PySem.W.nsIn K mainGlobals "ruling" = some (some (.ref fRG))) (lRG : K.lookup fRG = some ⟨ocRG, odRG, .func (PySem.W.fnOf "ruling" "ruling" (defArgs sRuling) (defBody sRuling) (defScope sRuling) .none kVRG dcRG pmRG anRG cdRG ctRG), slRG⟩) (cRG : PySem.W.codeIn K cdRG "ruling" = true) (kRG : PySem.W.keepIn K (.ref fRG) = true)
    (aRB : PySem.W.nsIn K mainGlobals "ruling_by" = some (some (.ref fRB))) (lRB : K.lookup fRB = some ⟨ocRB, odRB, .func (PySem.W.fnOf "ruling_by" "ruling_by" (defArgs sRulingBy) (defBody sRulingBy) (defScope sRulingBy) .none kVRB dcRB pmRB anRB cdRB ctRB), slRB⟩) (cRB : PySem.W.codeIn K cdRB "ruling_by" = true) (kRB : PySem.W.keepIn K (.ref fRB) = true)
    (aAT : PySem.W.nsIn K mainGlobals "_as_tuples" = some (some (.ref fAT))) (lAT : K.lookup fAT = some ⟨ocAT, odAT, .func (PySem.W.fnOf "_as_tuples" "_as_tuples" (defArgs sAsTuples) (defBody sAsTuples) (defScope sAsTuples) .none kVAT dcAT pmAT anAT cdAT ctAT), slAT⟩) (cAT : PySem.W.codeIn K cdAT "_as_tuples" = true) (kAT : PySem.W.keepIn K (.ref fAT) = true)
    (aRD : PySem.W.nsIn K mainGlobals "_ruled" = some (some (.ref fRD))) (lRD : K.lookup fRD = some ⟨ocRD, odRD, .func (PySem.W.fnOf "_ruled" "_ruled" (defArgs sRuled) (defBody sRuled) (defScope sRuled) .none kVRD dcRD pmRD anRD cdRD ctRD), slRD⟩) (cRD : PySem.W.codeIn K cdRD "_ruled" = true) (kRD : PySem.W.keepIn K (.ref fRD) = true)
    (aRU : PySem.W.nsIn K mainGlobals "_rules" = some (some (.ref fRU))) (lRU : K.lookup fRU = some ⟨ocRU, odRU, .func (PySem.W.fnOf "_rules" "_rules" (defArgs sRules) (defBody sRules) (defScope sRules) .none kVRU dcRU pmRU anRU cdRU ctRU), slRU⟩) (cRU : PySem.W.codeIn K cdRU "_rules" = true) (kRU : PySem.W.keepIn K (.ref fRU) = true)
    (aNB : PySem.W.nsIn K mainGlobals "names_by_table" = some (some (.ref fNB))) (lNB : K.lookup fNB = some ⟨ocNB, odNB, .func (PySem.W.fnOf "names_by_table" "names_by_table" (defArgs sNamesBy) (defBody sNamesBy) (defScope sNamesBy) .none kVNB dcNB pmNB anNB cdNB ctNB), slNB⟩) (cNB : PySem.W.codeIn K cdNB "names_by_table" = true) (kNB : PySem.W.keepIn K (.ref fNB) = true)
    (aLO : PySem.W.nsIn K mainGlobals "line_of" = some (some (.ref fLO))) (lLO : K.lookup fLO = some ⟨ocLO, odLO, .func (PySem.W.fnOf "line_of" "line_of" (defArgs sLineOf) (defBody sLineOf) (defScope sLineOf) .none kVLO dcLO pmLO anLO cdLO ctLO), slLO⟩) (cLO : PySem.W.codeIn K cdLO "line_of" = true) (kLO : PySem.W.keepIn K (.ref fLO) = true)
    (aTR : PySem.W.nsIn K mainGlobals "triad_of" = some (some (.ref fTR))) (lTR : K.lookup fTR = some ⟨ocTR, odTR, .func (PySem.W.fnOf "triad_of" "triad_of" (defArgs sTriadOf) (defBody sTriadOf) (defScope sTriadOf) .none kVTR dcTR pmTR anTR cdTR ctTR), slTR⟩) (cTR : PySem.W.codeIn K cdTR "triad_of" = true) (kTR : PySem.W.keepIn K (.ref fTR) = true)
    (aNL : PySem.W.nsIn K mainGlobals "need_line" = some (some (.ref fNL))) (lNL : K.lookup fNL = some ⟨ocNL, odNL, .func (PySem.W.fnOf "need_line" "need_line" (defArgs sNeedLine) (defBody sNeedLine) (defScope sNeedLine) .none kVNL dcNL pmNL anNL cdNL ctNL), slNL⟩) (cNL : PySem.W.codeIn K cdNL "need_line" = true) (kNL : PySem.W.keepIn K (.ref fNL) = true)
    (aSL : PySem.W.nsIn K mainGlobals "shows_line" = some (some (.ref fSL))) (lSL : K.lookup fSL = some ⟨ocSL, odSL, .func (PySem.W.fnOf "shows_line" "shows_line" (defArgs sShowsLine) (defBody sShowsLine) (defScope sShowsLine) .none kVSL dcSL pmSL anSL cdSL ctSL), slSL⟩) (cSL : PySem.W.codeIn K cdSL "shows_line" = true) (kSL : PySem.W.keepIn K (.ref fSL) = true)
    (aST : PySem.W.nsIn K mainGlobals "shows_triad" = some (some (.ref fST))) (lST : K.lookup fST = some ⟨ocST, odST, .func (PySem.W.fnOf "shows_triad" "shows_triad" (defArgs sShowsTriad) (defBody sShowsTriad) (defScope sShowsTriad) .none kVST dcST pmST anST cdST ctST), slST⟩) (cST : PySem.W.codeIn K cdST "shows_triad" = true) (kST : PySem.W.keepIn K (.ref fST) = true)
    (aIO : PySem.W.nsIn K mainGlobals "_in_order" = some (some (.ref fIO))) (lIO : K.lookup fIO = some ⟨ocIO, odIO, .func (PySem.W.fnOf "_in_order" "_in_order" (defArgs sInOrder) (defBody sInOrder) (defScope sInOrder) .none kVIO dcIO pmIO anIO cdIO ctIO), slIO⟩) (cIO : PySem.W.codeIn K cdIO "_in_order" = true) (kIO : PySem.W.keepIn K (.ref fIO) = true)
    (aTU : PySem.W.nsIn K mainGlobals "_turns" = some (some (.ref fTU))) (lTU : K.lookup fTU = some ⟨ocTU, odTU, .func (PySem.W.fnOf "_turns" "_turns" (defArgs sTurns) (defBody sTurns) (defScope sTurns) .none kVTU dcTU pmTU anTU cdTU ctTU), slTU⟩) (cTU : PySem.W.codeIn K cdTU "_turns" = true) (kTU : PySem.W.keepIn K (.ref fTU) = true)
    (aIL : PySem.W.nsIn K mainGlobals "_is_line" = some (some (.ref fIL))) (lIL : K.lookup fIL = some ⟨ocIL, odIL, .func (PySem.W.fnOf "_is_line" "_is_line" (defArgs sIsLineP) (defBody sIsLineP) (defScope sIsLineP) .none kVIL dcIL pmIL anIL cdIL ctIL), slIL⟩) (cIL : PySem.W.codeIn K cdIL "_is_line" = true) (kIL : PySem.W.keepIn K (.ref fIL) = true)
    (aIT : PySem.W.nsIn K mainGlobals "_is_triad" = some (some (.ref fIT))) (lIT : K.lookup fIT = some ⟨ocIT, odIT, .func (PySem.W.fnOf "_is_triad" "_is_triad" (defArgs sIsTriad) (defBody sIsTriad) (defScope sIsTriad) .none kVIT dcIT pmIT anIT cdIT ctIT), slIT⟩) (cIT : PySem.W.codeIn K cdIT "_is_triad" = true) (kIT : PySem.W.keepIn K (.ref fIT) = true)
    (aRA : PySem.W.nsIn K mainGlobals "_reached" = some (some (.ref fRA))) (lRA : K.lookup fRA = some ⟨ocRA, odRA, .func (PySem.W.fnOf "_reached" "_reached" (defArgs sReachedAll) (defBody sReachedAll) (defScope sReachedAll) .none kVRA dcRA pmRA anRA cdRA ctRA), slRA⟩) (cRA : PySem.W.codeIn K cdRA "_reached" = true) (kRA : PySem.W.keepIn K (.ref fRA) = true)
    (aRP : PySem.W.nsIn K mainGlobals "_reached_past" = some (some (.ref fRP))) (lRP : K.lookup fRP = some ⟨ocRP, odRP, .func (PySem.W.fnOf "_reached_past" "_reached_past" (defArgs sReachedPast) (defBody sReachedPast) (defScope sReachedPast) .none kVRP dcRP pmRP anRP cdRP ctRP), slRP⟩) (cRP : PySem.W.codeIn K cdRP "_reached_past" = true) (kRP : PySem.W.keepIn K (.ref fRP) = true)
    (aTP : PySem.W.nsIn K mainGlobals "_touch_past" = some (some (.ref fTP))) (lTP : K.lookup fTP = some ⟨ocTP, odTP, .func (PySem.W.fnOf "_touch_past" "_touch_past" (defArgs sTouchPast) (defBody sTouchPast) (defScope sTouchPast) .none kVTP dcTP pmTP anTP cdTP ctTP), slTP⟩) (cTP : PySem.W.codeIn K cdTP "_touch_past" = true) (kTP : PySem.W.keepIn K (.ref fTP) = true)
    (aCH : PySem.W.nsIn K mainGlobals "_chain" = some (some (.ref fCH))) (lCH : K.lookup fCH = some ⟨ocCH, odCH, .func (PySem.W.fnOf "_chain" "_chain" (defArgs sChain) (defBody sChain) (defScope sChain) .none kVCH dcCH pmCH anCH cdCH ctCH), slCH⟩) (cCH : PySem.W.codeIn K cdCH "_chain" = true) (kCH : PySem.W.keepIn K (.ref fCH) = true)
    (aIC : PySem.W.nsIn K mainGlobals "_is_chain" = some (some (.ref fIC))) (lIC : K.lookup fIC = some ⟨ocIC, odIC, .func (PySem.W.fnOf "_is_chain" "_is_chain" (defArgs sIsChainP) (defBody sIsChainP) (defScope sIsChainP) .none kVIC dcIC pmIC anIC cdIC ctIC), slIC⟩) (cIC : PySem.W.codeIn K cdIC "_is_chain" = true) (kIC : PySem.W.keepIn K (.ref fIC) = true)
    (aTA : PySem.W.nsIn K mainGlobals "_is_table_of" = some (some (.ref fTA))) (lTA : K.lookup fTA = some ⟨ocTA, odTA, .func (PySem.W.fnOf "_is_table_of" "_is_table_of" (defArgs sIsTableOf) (defBody sIsTableOf) (defScope sIsTableOf) .none kVTA dcTA pmTA anTA cdTA ctTA), slTA⟩) (cTA : PySem.W.codeIn K cdTA "_is_table_of" = true) (kTA : PySem.W.keepIn K (.ref fTA) = true)
    (aKN : PySem.W.nsIn K mainGlobals "_law_kneaded" = some (some (.ref fKN))) (lKN : K.lookup fKN = some ⟨ocKN, odKN, .func (PySem.W.fnOf "_law_kneaded" "_law_kneaded" (defArgs sKneaded) (defBody sKneaded) (defScope sKneaded) .none kVKN dcKN pmKN anKN cdKN ctKN), slKN⟩) (cKN : PySem.W.codeIn K cdKN "_law_kneaded" = true) (kKN : PySem.W.keepIn K (.ref fKN) = true)
    (aPT : PySem.W.nsIn K mainGlobals "_law_pot_of" = some (some (.ref fPT))) (lPT : K.lookup fPT = some ⟨ocPT, odPT, .func (PySem.W.fnOf "_law_pot_of" "_law_pot_of" (defArgs sPot) (defBody sPot) (defScope sPot) .none kVPT dcPT pmPT anPT cdPT ctPT), slPT⟩) (cPT : PySem.W.codeIn K cdPT "_law_pot_of" = true) (kPT : PySem.W.keepIn K (.ref fPT) = true)
    (aBE : PySem.W.nsIn K mainGlobals "_law_below" = some (some (.ref fBE))) (lBE : K.lookup fBE = some ⟨ocBE, odBE, .func (PySem.W.fnOf "_law_below" "_law_below" (defArgs sBelow) (defBody sBelow) (defScope sBelow) .none kVBE dcBE pmBE anBE cdBE ctBE), slBE⟩) (cBE : PySem.W.codeIn K cdBE "_law_below" = true) (kBE : PySem.W.keepIn K (.ref fBE) = true)
    (aPK : PySem.W.nsIn K mainGlobals "_law_pick" = some (some (.ref fPK))) (lPK : K.lookup fPK = some ⟨ocPK, odPK, .func (PySem.W.fnOf "_law_pick" "_law_pick" (defArgs sPick) (defBody sPick) (defScope sPick) .none kVPK dcPK pmPK anPK cdPK ctPK), slPK⟩) (cPK : PySem.W.codeIn K cdPK "_law_pick" = true) (kPK : PySem.W.keepIn K (.ref fPK) = true)
    (aSA : PySem.W.nsIn K mainGlobals "_law_same" = some (some (.ref fSA))) (lSA : K.lookup fSA = some ⟨ocSA, odSA, .func (PySem.W.fnOf "_law_same" "_law_same" (defArgs sSame) (defBody sSame) (defScope sSame) .none kVSA dcSA pmSA anSA cdSA ctSA), slSA⟩) (cSA : PySem.W.codeIn K cdSA "_law_same" = true) (kSA : PySem.W.keepIn K (.ref fSA) = true)
    (aSH : PySem.W.nsIn K mainGlobals "_law_shapes" = some (some (.ref fSH))) (lSH : K.lookup fSH = some ⟨ocSH, odSH, .func (PySem.W.fnOf "_law_shapes" "_law_shapes" (defArgs sShapes) (defBody sShapes) (defScope sShapes) .none kVSH dcSH pmSH anSH cdSH ctSH), slSH⟩) (cSH : PySem.W.codeIn K cdSH "_law_shapes" = true) (kSH : PySem.W.keepIn K (.ref fSH) = true)
    (aSQ : PySem.W.nsIn K mainGlobals "_law_some_question" = some (some (.ref fSQ))) (lSQ : K.lookup fSQ = some ⟨ocSQ, odSQ, .func (PySem.W.fnOf "_law_some_question" "_law_some_question" (defArgs sSomeQ) (defBody sSomeQ) (defScope sSomeQ) .none kVSQ dcSQ pmSQ anSQ cdSQ ctSQ), slSQ⟩) (cSQ : PySem.W.codeIn K cdSQ "_law_some_question" = true) (kSQ : PySem.W.keepIn K (.ref fSQ) = true)
    (aSP : PySem.W.nsIn K mainGlobals "_law_some_prices" = some (some (.ref fSP))) (lSP : K.lookup fSP = some ⟨ocSP, odSP, .func (PySem.W.fnOf "_law_some_prices" "_law_some_prices" (defArgs sSomeP) (defBody sSomeP) (defScope sSomeP) .none kVSP dcSP pmSP anSP cdSP ctSP), slSP⟩) (cSP : PySem.W.codeIn K cdSP "_law_some_prices" = true) (kSP : PySem.W.keepIn K (.ref fSP) = true)
    (aOW : PySem.W.nsIn K mainGlobals "_law_own_names" = some (some (.ref fOW))) (lOW : K.lookup fOW = some ⟨ocOW, odOW, .func (PySem.W.fnOf "_law_own_names" "_law_own_names" (defArgs sOwn) (defBody sOwn) (defScope sOwn) .none kVOW dcOW pmOW anOW cdOW ctOW), slOW⟩) (cOW : PySem.W.codeIn K cdOW "_law_own_names" = true) (kOW : PySem.W.keepIn K (.ref fOW) = true)
    (aRE : PySem.W.nsIn K mainGlobals "_law_reached" = some (some (.ref fRE))) (lRE : K.lookup fRE = some ⟨ocRE, odRE, .func (PySem.W.fnOf "_law_reached" "_law_reached" (defArgs sReached) (defBody sReached) (defScope sReached) .none kVRE dcRE pmRE anRE cdRE ctRE), slRE⟩) (cRE : PySem.W.codeIn K cdRE "_law_reached" = true) (kRE : PySem.W.keepIn K (.ref fRE) = true)
    (aAP : PySem.W.nsIn K mainGlobals "_law_all_pieces" = some (some (.ref fAP))) (lAP : K.lookup fAP = some ⟨ocAP, odAP, .func (PySem.W.fnOf "_law_all_pieces" "_law_all_pieces" (defArgs sAllPieces) (defBody sAllPieces) (defScope sAllPieces) .none kVAP dcAP pmAP anAP cdAP ctAP), slAP⟩) (cAP : PySem.W.codeIn K cdAP "_law_all_pieces" = true) (kAP : PySem.W.keepIn K (.ref fAP) = true)
    (aPB : PySem.W.nsIn K mainGlobals "_law_part_by" = some (some (.ref fPB))) (lPB : K.lookup fPB = some ⟨ocPB, odPB, .func (PySem.W.fnOf "_law_part_by" "_law_part_by" (defArgs sPartBy) (defBody sPartBy) (defScope sPartBy) .none kVPB dcPB pmPB anPB cdPB ctPB), slPB⟩) (cPB : PySem.W.codeIn K cdPB "_law_part_by" = true) (kPB : PySem.W.keepIn K (.ref fPB) = true)
    (aDP : PySem.W.nsIn K mainGlobals "_law_does_part" = some (some (.ref fDP))) (lDP : K.lookup fDP = some ⟨ocDP, odDP, .func (PySem.W.fnOf "_law_does_part" "_law_does_part" (defArgs sDoesPart) (defBody sDoesPart) (defScope sDoesPart) .none kVDP dcDP pmDP anDP cdDP ctDP), slDP⟩) (cDP : PySem.W.codeIn K cdDP "_law_does_part" = true) (kDP : PySem.W.keepIn K (.ref fDP) = true)
    (aFL : PySem.W.nsIn K mainGlobals "_law_first_line" = some (some (.ref fFL))) (lFL : K.lookup fFL = some ⟨ocFL, odFL, .func (PySem.W.fnOf "_law_first_line" "_law_first_line" (defArgs sFirstLine) (defBody sFirstLine) (defScope sFirstLine) .none kVFL dcFL pmFL anFL cdFL ctFL), slFL⟩) (cFL : PySem.W.codeIn K cdFL "_law_first_line" = true) (kFL : PySem.W.keepIn K (.ref fFL) = true)
    (aGR : PySem.W.nsIn K mainGlobals "_law_grown" = some (some (.ref fGR))) (lGR : K.lookup fGR = some ⟨ocGR, odGR, .func (PySem.W.fnOf "_law_grown" "_law_grown" (defArgs sGrown) (defBody sGrown) (defScope sGrown) .none kVGR dcGR pmGR anGR cdGR ctGR), slGR⟩) (cGR : PySem.W.codeIn K cdGR "_law_grown" = true) (kGR : PySem.W.keepIn K (.ref fGR) = true)
    (aIE : PySem.W.nsIn K mainGlobals "_law_is_end" = some (some (.ref fIE))) (lIE : K.lookup fIE = some ⟨ocIE, odIE, .func (PySem.W.fnOf "_law_is_end" "_law_is_end" (defArgs sIsEnd) (defBody sIsEnd) (defScope sIsEnd) .none kVIE dcIE pmIE anIE cdIE ctIE), slIE⟩) (cIE : PySem.W.codeIn K cdIE "_law_is_end" = true) (kIE : PySem.W.keepIn K (.ref fIE) = true)
    (aFT : PySem.W.nsIn K mainGlobals "_law_first_triad" = some (some (.ref fFT))) (lFT : K.lookup fFT = some ⟨ocFT, odFT, .func (PySem.W.fnOf "_law_first_triad" "_law_first_triad" (defArgs sFirstTriad) (defBody sFirstTriad) (defScope sFirstTriad) .none kVFT dcFT pmFT anFT cdFT ctFT), slFT⟩) (cFT : PySem.W.codeIn K cdFT "_law_first_triad" = true) (kFT : PySem.W.keepIn K (.ref fFT) = true)
    (aLC : PySem.W.nsIn K mainGlobals "_law_is_chain" = some (some (.ref fLC))) (lLC : K.lookup fLC = some ⟨ocLC, odLC, .func (PySem.W.fnOf "_law_is_chain" "_law_is_chain" (defArgs sIsChain) (defBody sIsChain) (defScope sIsChain) .none kVLC dcLC pmLC anLC cdLC ctLC), slLC⟩) (cLC : PySem.W.codeIn K cdLC "_law_is_chain" = true) (kLC : PySem.W.keepIn K (.ref fLC) = true)
    (aNP : PySem.W.nsIn K mainGlobals "_law_need_or_paper" = some (some (.ref fNP))) (lNP : K.lookup fNP = some ⟨ocNP, odNP, .func (PySem.W.fnOf "_law_need_or_paper" "_law_need_or_paper" (defArgs sNeedPaper) (defBody sNeedPaper) (defScope sNeedPaper) .none kVNP dcNP pmNP anNP cdNP ctNP), slNP⟩) (cNP : PySem.W.codeIn K cdNP "_law_need_or_paper" = true) (kNP : PySem.W.keepIn K (.ref fNP) = true)
    (aRI : PySem.W.nsIn K mainGlobals "_law_right" = some (some (.ref fRI))) (lRI : K.lookup fRI = some ⟨ocRI, odRI, .func (PySem.W.fnOf "_law_right" "_law_right" (defArgs sRight) (defBody sRight) (defScope sRight) .none kVRI dcRI pmRI anRI cdRI ctRI), slRI⟩) (cRI : PySem.W.codeIn K cdRI "_law_right" = true) (kRI : PySem.W.keepIn K (.ref fRI) = true)
    (aLW : PySem.W.nsIn K mainGlobals "law" = some (some (.ref fLW))) (lLW : K.lookup fLW = some ⟨ocLW, odLW, .func (PySem.W.fnOf "law" "law" (defArgs sLaw) (defBody sLaw) (defScope sLaw) .none kVLW dcLW pmLW anLW cdLW ctLW), slLW⟩) (cLW : PySem.W.codeIn K cdLW "law" = true) (kLW : PySem.W.keepIn K (.ref fLW) = true)
    (z_int : PySem.W.nsIn K mainGlobals "int" = some none)
    (z_range : PySem.W.nsIn K mainGlobals "range" = some none)
    (z_len : PySem.W.nsIn K mainGlobals "len" = some none)
    (z_abs : PySem.W.nsIn K mainGlobals "abs" = some none)
    (z_enumerate : PySem.W.nsIn K mainGlobals "enumerate" = some none)
    (z_list : PySem.W.nsIn K mainGlobals "list" = some none)
    (z_tuple : PySem.W.nsIn K mainGlobals "tuple" = some none)
    (z_sorted : PySem.W.nsIn K mainGlobals "sorted" = some none)
    (z_set : PySem.W.nsIn K mainGlobals "set" = some none)
    (z_isinstance : PySem.W.nsIn K mainGlobals "isinstance" = some none)
    (z_repr : PySem.W.nsIn K mainGlobals "repr" = some none)
    (z_str : PySem.W.nsIn K mainGlobals "str" = some none)
    (z_any : PySem.W.nsIn K mainGlobals "any" = some none)
    (z_all : PySem.W.nsIn K mainGlobals "all" = some none)
    (z_zip : PySem.W.nsIn K mainGlobals "zip" = some none)
    (zPe : PySem.W.nsIn K mainGlobals "permutations" = some (some (.type pT)))
    (zCo : PySem.W.nsIn K mainGlobals "combinations" = some (some (.type cT)))
    (nC : PySem.W.nsIn K mainGlobals "NoLine" = some (some (.ref C)))
    (nA : PySem.W.nsIn K mainGlobals "AnswerError" = some (some (.ref CA)))
    (aIP : PySem.W.findIn K (.ref C) "__init__" = some (some (.ref fIP)))
    (lIP : K.lookup fIP = some ⟨ocIP, odIP, .func (PySem.W.fnOf "__init__" "NoLine.__init__" (defArgs sInitP) (defBody sInitP) (defScope sInitP) .none kVIP dcIP pmIP anIP cdIP ctIP), slIP⟩)
    (cIP : PySem.W.codeIn K cdIP "NoLine.__init__" = true)
    (kIP : PySem.W.keepIn K (.ref fIP) = true)
    (tIP : PySem.W.typeIn K (.ref fIP) = some (.type "function"))
    (mP : PySem.W.findIn K (.ref C) "paper" = some none)
    (ox : oexIs K C = true)
    (ex : excIs K C = true)
    (te : PySem.W.exmOne K (.ref C) (.ref CA) = some true)
    (ki : PySem.W.kitOne K (.ref C) (.ref C) = some true)
    : ∃ fd : FuncData, (∀ (s : Shared) (v : Value), BindsTo s fd ⟨[v], []⟩ [("script", v)]) ∧ ∀ base : Heap, K.In base → base.Ns mainGlobals mg → FnG l.prog w K mg base CX0 14 fa fd ["script"] (spLaw K) := by
  have e := hfa.symm.trans (PySem.W.mg_of X G aLW)
  cases e
  have FPN := fun_mk (st := sPartNames) lPN cPN kPN
  have bPN := FPN.binds (ps := ["parts"]) fun _ _ _ _ _ _ us hl => match us, hl with | [_], _ => rfl
  have gPN := PySem.W.mg_of X G aPN
  have FPI := fun_mk (st := sPieces) lPI cPI kPI
  have bPI := FPI.binds (ps := ["question"]) fun _ _ _ _ _ _ us hl => match us, hl with | [_], _ => rfl
  have gPI := PySem.W.mg_of X G aPI
  have FTO := fun_mk (st := sTouches) lTO cTO kTO
  have bTO := FTO.binds (ps := ["atoms", "place", "group"]) fun _ _ _ _ _ _ us hl => match us, hl with | [_, _, _], _ => rfl
  have gTO := PySem.W.mg_of X G aTO
  have FLT := fun_mk (st := sLooseT) lLT cLT kLT
  have bLT := FLT.binds (ps := ["question", "prices"]) fun _ _ _ _ _ _ us hl => match us, hl with | [_, _], _ => rfl
  have gLT := PySem.W.mg_of X G aLT
  have FRG := fun_mk (st := sRuling) lRG cRG kRG
  have bRG := FRG.binds (ps := ["question", "prices"]) fun _ _ _ _ _ _ us hl => match us, hl with | [_, _], _ => rfl
  have gRG := PySem.W.mg_of X G aRG
  have FRB := fun_mk (st := sRulingBy) lRB cRB kRB
  have bRB := FRB.binds (ps := ["question", "worths"]) fun _ _ _ _ _ _ us hl => match us, hl with | [_, _], _ => rfl
  have gRB := PySem.W.mg_of X G aRB
  have FAT := fun_mk (st := sAsTuples) lAT cAT kAT
  have bAT := FAT.binds (ps := ["prices"]) fun _ _ _ _ _ _ us hl => match us, hl with | [_], _ => rfl
  have gAT := PySem.W.mg_of X G aAT
  have FRD := fun_mk (st := sRuled) lRD cRD kRD
  have bRD := FRD.binds (ps := ["question", "worths"]) fun _ _ _ _ _ _ us hl => match us, hl with | [_, _], _ => rfl
  have gRD := PySem.W.mg_of X G aRD
  have FRU := fun_mk (st := sRules) lRU cRU kRU
  have bRU := FRU.binds (ps := ["names", "worths", "tables", "one", "other"]) fun _ _ _ _ _ _ us hl => match us, hl with | [_, _, _, _, _], _ => rfl
  have gRU := PySem.W.mg_of X G aRU
  have FNB := fun_mk (st := sNamesBy) lNB cNB kNB
  have bNB := FNB.binds (ps := ["question"]) fun _ _ _ _ _ _ us hl => match us, hl with | [_], _ => rfl
  have gNB := PySem.W.mg_of X G aNB
  have FLO := fun_mk (st := sLineOf) lLO cLO kLO
  have bLO := FLO.binds (ps := ["question", "tables"]) fun _ _ _ _ _ _ us hl => match us, hl with | [_, _], _ => rfl
  have gLO := PySem.W.mg_of X G aLO
  have FTR := fun_mk (st := sTriadOf) lTR cTR kTR
  have bTR := FTR.binds (ps := ["question", "tables"]) fun _ _ _ _ _ _ us hl => match us, hl with | [_, _], _ => rfl
  have gTR := PySem.W.mg_of X G aTR
  have FNL := fun_mk (st := sNeedLine) lNL cNL kNL
  have bNL := FNL.binds (ps := ["question", "tables"]) fun _ _ _ _ _ _ us hl => match us, hl with | [_, _], _ => rfl
  have gNL := PySem.W.mg_of X G aNL
  have FSL := fun_mk (st := sShowsLine) lSL cSL kSL
  have bSL := FSL.binds (ps := ["question", "tables", "thing"]) fun _ _ _ _ _ _ us hl => match us, hl with | [_, _, _], _ => rfl
  have gSL := PySem.W.mg_of X G aSL
  have FST := fun_mk (st := sShowsTriad) lST cST kST
  have bST := FST.binds (ps := ["question", "tables", "thing"]) fun _ _ _ _ _ _ us hl => match us, hl with | [_, _, _], _ => rfl
  have gST := PySem.W.mg_of X G aST
  have FIO := fun_mk (st := sInOrder) lIO cIO kIO
  have bIO := FIO.binds (ps := ["question", "tables"]) fun _ _ _ _ _ _ us hl => match us, hl with | [_, _], _ => rfl
  have gIO := PySem.W.mg_of X G aIO
  have FTU := fun_mk (st := sTurns) lTU cTU kTU
  have bTU := FTU.binds (ps := ["triad"]) fun _ _ _ _ _ _ us hl => match us, hl with | [_], _ => rfl
  have gTU := PySem.W.mg_of X G aTU
  have FIL := fun_mk (st := sIsLineP) lIL cIL kIL
  have bIL := FIL.binds (ps := ["reached", "order"]) fun _ _ _ _ _ _ us hl => match us, hl with | [_, _], _ => rfl
  have gIL := PySem.W.mg_of X G aIL
  have FIT := fun_mk (st := sIsTriad) lIT cIT kIT
  have bIT := FIT.binds (ps := ["reached", "triad"]) fun _ _ _ _ _ _ us hl => match us, hl with | [_, _], _ => rfl
  have gIT := PySem.W.mg_of X G aIT
  have FRA := fun_mk (st := sReachedAll) lRA cRA kRA
  have bRA := FRA.binds (ps := ["question", "tables"]) fun _ _ _ _ _ _ us hl => match us, hl with | [_, _], _ => rfl
  have gRA := PySem.W.mg_of X G aRA
  have FRP := fun_mk (st := sReachedPast) lRP cRP kRP
  have bRP := FRP.binds (ps := ["names", "start", "past"]) fun _ _ _ _ _ _ us hl => match us, hl with | [_, _, _], _ => rfl
  have gRP := PySem.W.mg_of X G aRP
  have FTP := fun_mk (st := sTouchPast) lTP cTP kTP
  have bTP := FTP.binds (ps := ["names", "one", "other", "past"]) fun _ _ _ _ _ _ us hl => match us, hl with | [_, _, _, _], _ => rfl
  have gTP := PySem.W.mg_of X G aTP
  have FCH := fun_mk (st := sChain) lCH cCH kCH
  have bCH := FCH.binds (ps := ["ahead", "end"]) fun _ _ _ _ _ _ us hl => match us, hl with | [_, _], _ => rfl
  have gCH := PySem.W.mg_of X G aCH
  have FIC := fun_mk (st := sIsChainP) lIC cIC kIC
  have bIC := FIC.binds (ps := ["names", "thing", "turn"]) fun _ _ _ _ _ _ us hl => match us, hl with | [_, _, _], _ => rfl
  have gIC := PySem.W.mg_of X G aIC
  have FTA := fun_mk (st := sIsTableOf) lTA cTA kTA
  have bTA := FTA.binds (ps := ["names", "thing"]) fun _ _ _ _ _ _ us hl => match us, hl with | [_, _], _ => rfl
  have gTA := PySem.W.mg_of X G aTA
  have FKN := fun_mk (st := sKneaded) lKN cKN kKN
  have bKN := FKN.binds (ps := ["seed", "lap"]) fun _ _ _ _ _ _ us hl => match us, hl with | [_, _], _ => rfl
  have gKN := PySem.W.mg_of X G aKN
  have FPT := fun_mk (st := sPot) lPT cPT kPT
  have bPT := FPT.binds (ps := ["script"]) fun _ _ _ _ _ _ us hl => match us, hl with | [_], _ => rfl
  have gPT := PySem.W.mg_of X G aPT
  have FBE := fun_mk (st := sBelow) lBE cBE kBE
  have bBE := FBE.binds (ps := ["pot", "bound"]) fun _ _ _ _ _ _ us hl => match us, hl with | [_, _], _ => rfl
  have gBE := PySem.W.mg_of X G aBE
  have FPK := fun_mk (st := sPick) lPK cPK kPK
  have bPK := FPK.binds (ps := ["pot", "items"]) fun _ _ _ _ _ _ us hl => match us, hl with | [_, _], _ => rfl
  have gPK := PySem.W.mg_of X G aPK
  have FSA := fun_mk (st := sSame) lSA cSA kSA
  have bSA := FSA.binds (ps := ["one", "other"]) fun _ _ _ _ _ _ us hl => match us, hl with | [_, _], _ => rfl
  have gSA := PySem.W.mg_of X G aSA
  have FSH := fun_mk (st := sShapes) lSH cSH kSH
  have bSH := FSH.binds (ps := []) fun _ _ _ _ _ _ us hl => match us, hl with | [], _ => rfl
  have gSH := PySem.W.mg_of X G aSH
  have FSQ := fun_mk (st := sSomeQ) lSQ cSQ kSQ
  have bSQ := FSQ.binds (ps := ["pot"]) fun _ _ _ _ _ _ us hl => match us, hl with | [_], _ => rfl
  have gSQ := PySem.W.mg_of X G aSQ
  have FSP := fun_mk (st := sSomeP) lSP cSP kSP
  have bSP := FSP.binds (ps := ["pot", "question"]) fun _ _ _ _ _ _ us hl => match us, hl with | [_, _], _ => rfl
  have gSP := PySem.W.mg_of X G aSP
  have FOW := fun_mk (st := sOwn) lOW cOW kOW
  have bOW := FOW.binds (ps := ["question"]) fun _ _ _ _ _ _ us hl => match us, hl with | [_], _ => rfl
  have gOW := PySem.W.mg_of X G aOW
  have FRE := fun_mk (st := sReached) lRE cRE kRE
  have bRE := FRE.binds (ps := ["own", "start", "without"]) fun _ _ _ _ _ _ us hl => match us, hl with | [_, _, _], _ => rfl
  have gRE := PySem.W.mg_of X G aRE
  have FAP := fun_mk (st := sAllPieces) lAP cAP kAP
  have bAP := FAP.binds (ps := ["question"]) fun _ _ _ _ _ _ us hl => match us, hl with | [_], _ => rfl
  have gAP := PySem.W.mg_of X G aAP
  have FPB := fun_mk (st := sPartBy) lPB cPB kPB
  have bPB := FPB.binds (ps := ["question", "piece"]) fun _ _ _ _ _ _ us hl => match us, hl with | [_, _], _ => rfl
  have gPB := PySem.W.mg_of X G aPB
  have FDP := fun_mk (st := sDoesPart) lDP cDP kDP
  have bDP := FDP.binds (ps := ["own", "one", "middle", "other"]) fun _ _ _ _ _ _ us hl => match us, hl with | [_, _, _, _], _ => rfl
  have gDP := PySem.W.mg_of X G aDP
  have FFL := fun_mk (st := sFirstLine) lFL cFL kFL
  have bFL := FFL.binds (ps := ["question", "tables"]) fun _ _ _ _ _ _ us hl => match us, hl with | [_, _], _ => rfl
  have gFL := PySem.W.mg_of X G aFL
  have FGR := fun_mk (st := sGrown) lGR cGR kGR
  have bGR := FGR.binds (ps := ["own", "line", "rest"]) fun _ _ _ _ _ _ us hl => match us, hl with | [_, _, _], _ => rfl
  have gGR := PySem.W.mg_of X G aGR
  have FIE := fun_mk (st := sIsEnd) lIE cIE kIE
  have bIE := FIE.binds (ps := ["own", "line", "last"]) fun _ _ _ _ _ _ us hl => match us, hl with | [_, _, _], _ => rfl
  have gIE := PySem.W.mg_of X G aIE
  have FFT := fun_mk (st := sFirstTriad) lFT cFT kFT
  have bFT := FFT.binds (ps := ["own", "tables"]) fun _ _ _ _ _ _ us hl => match us, hl with | [_, _], _ => rfl
  have gFT := PySem.W.mg_of X G aFT
  have FLC := fun_mk (st := sIsChain) lLC cLC kLC
  have bLC := FLC.binds (ps := ["own", "chain", "one", "other", "past"]) fun _ _ _ _ _ _ us hl => match us, hl with | [_, _, _, _, _], _ => rfl
  have gLC := PySem.W.mg_of X G aLC
  have FNP := fun_mk (st := sNeedPaper) lNP cNP kNP
  have bNP := FNP.binds (ps := ["question", "tables"]) fun _ _ _ _ _ _ us hl => match us, hl with | [_, _], _ => rfl
  have gNP := PySem.W.mg_of X G aNP
  have FRI := fun_mk (st := sRight) lRI cRI kRI
  have bRI := FRI.binds (ps := ["question", "tables"]) fun _ _ _ _ _ _ us hl => match us, hl with | [_, _], _ => rfl
  have gRI := PySem.W.mg_of X G aRI
  have FLW := fun_mk (st := sLaw) lLW cLW kLW
  have N := fun {x : Str} (z : PySem.W.nsIn K mainGlobals x = some none) => PySem.W.mg_none_of X G z
  have B : Blt mg := ⟨N z_int, N z_range, N z_len, N z_abs, N z_enumerate, N z_list, N z_tuple, N z_sorted, N z_set, N z_isinstance, N z_repr, N z_str⟩
  have FIP := fun_mk (st := sInitP) lIP cIP kIP
  have bIP := FIP.binds (ps := ["self", "paper"]) fun _ _ _ _ _ _ us hl => match us, hl with | [_, _], _ => rfl
  have NN : NoLn K mg C CA fIP := ⟨PySem.W.mg_of X G nC, PySem.W.mg_of X G nA, oexIs_of ox, excIs_of ex, aIP, tIP, mP, te, ki⟩
  refine ⟨PySem.W.fnOf "law" "law" (defArgs sLaw) (defBody sLaw) (defScope sLaw) .none kVLW dcLW pmLW anLW cdLW ctLW, fun s v => .of_eq rfl, fun base _ _ => ?_⟩
  have GPN : FnOk l.prog w K mg base CX0 1 fPN _ ["parts"] (spPartNames K) := ok_partNames FPN B
  have GTO : FnOk l.prog w K mg base CX0 2 fTO _ ["atoms", "place", "group"] (spTouches K) := ok_touches FTO B (N z_any) FPN bPN gPN
  have GPI : FnOk l.prog w K mg base CX0 3 fPI _ ["question"] (spPieces K) := ok_pieces FPI B FTO bTO gTO GTO
  have GLTW : FnOk l.prog w K mg base CX0 1 fLT _ ["question", "prices"] (spLooseW K) := ok_looseW FLT B
  have GAT : FnOk l.prog w K mg base CX0 1 fAT _ ["prices"] (spAsT K) := ok_asT FAT B
  have GNB : FnOk l.prog w K mg base CX0 2 fNB _ ["question"] (spOwn K) := ok_namesBy FNB B FPN bPN gPN
  have GRU : FnOk l.prog w K mg base CX0 1 fRU _ ["names", "worths", "tables", "one", "other"] (spRules K) := ok_rules FRU B (N z_all) (N z_any) (N z_zip)
  have GRD : FnOk l.prog w K mg base CX0 4 fRD _ ["question", "worths"] (spRuled K) := ok_ruled FRD B FNB bNB gNB GNB FLT bLT gLT GLTW FPI bPI gPI GPI FRU bRU gRU GRU
  have GRB : FnOk l.prog w K mg base CX0 5 fRB _ ["question", "worths"] (spRulingBy K) := ok_rulingBy FRB B FRD bRD gRD GRD FLT bLT gLT GLTW
  have GRG : FnOk l.prog w K mg base CX0 6 fRG _ ["question", "prices"] (spRuling K) := ok_ruling FRG FRB bRB gRB GRB FAT bAT gAT GAT
  have GPT : FnOk l.prog w K mg base CX0 1 fPT _ ["script"] (spPot K) := ok_pot FPT B
  have GBE : FnOk l.prog w K mg base CX0 2 fBE _ ["pot", "bound"] spBelow := ok_below FBE B FKN bKN gKN
  have GPK : FnOk l.prog w K mg base CX0 3 fPK _ ["pot", "items"] (spPick K) := ok_pick FPK B FBE GBE bBE gBE
  have GSA : FnG l.prog w K mg base CX0 1 fSA _ ["one", "other"] (spSame K) := ok_same FSA B
  have GSH : FnOk l.prog w K mg base CX0 1 fSH _ [] spShapes := ok_shapes FSH B
  have GSQ : FnOk l.prog w K mg base CX0 4 fSQ _ ["pot"] (spSomeQ K) := ok_someQ FSQ B FBE bBE gBE GBE FPK bPK gPK GPK FSH bSH gSH GSH
  have GSP : FnOk l.prog w K mg base CX0 4 fSP _ ["pot", "question"] (spSomeP K) := ok_someP FSP B FBE bBE gBE GBE FPK bPK gPK GPK
  have GOW : FnOk l.prog w K mg base CX0 1 fOW _ ["question"] (spOwn K) := ok_own FOW B
  have GRE : FnOk l.prog w K mg base CX0 1 fRE _ ["own", "start", "without"] (spReached K) := ok_reached FRE B
  have GREW : FnOk l.prog w K mg base CX0 1 fRE _ ["own", "start", "without"] (spReachedW K) := ok_reachedW FRE B
  have GAP : FnOk l.prog w K mg base CX0 2 fAP _ ["question"] (spAll K) := ok_all FAP B FOW bOW gOW GOW FRE bRE gRE GRE
  have GPB : FnOk l.prog w K mg base CX0 1 fPB _ ["question", "piece"] (spPartOf K) := ok_partBy FPB B
  have GTP : FnOk l.prog w K mg base CX0 1 fTP _ ["names", "one", "other", "past"] (spTouchP K) := ok_touchP FTP (N z_any)
  have GRP : FnOk l.prog w K mg base CX0 2 fRP _ ["names", "start", "past"] (spReachP K) := ok_reachP FRP B FTP bTP gTP GTP
  have GRA : FnOk l.prog w K mg base CX0 3 fRA _ ["question", "tables"] (spReachA K) := ok_reachA FRA B FNB bNB gNB GNB FRP bRP gRP GRP
  have GIL : FnOk l.prog w K mg base CX0 1 fIL _ ["reached", "order"] (spIsLine K) := ok_isLine FIL B (N z_all)
  have GIO : FnOk l.prog w K mg base CX0 1 fIO _ ["question", "tables"] (spInOrder K) := ok_inOrder FIO
  have GLO : FnOk l.prog w K mg base CX0 4 fLO _ ["question", "tables"] (spLineOf K) := ok_lineOf FLO (PySem.W.mg_of X G zPe) FRA bRA gRA GRA FIO bIO gIO GIO FIL bIL gIL GIL
  have GTU : FnOk l.prog w K mg base CX0 1 fTU _ ["triad"] (spTurns K) := ok_turns FTU
  have GIT : FnOk l.prog w K mg base CX0 2 fIT _ ["reached", "triad"] (spIsTriad K) := ok_isTriad FIT (N z_all) FTU bTU gTU GTU
  have GCH : FnOk l.prog w K mg base CX0 1 fCH _ ["ahead", "end"] (spChain K) := ok_chain FCH B
  have GTR : FnOk l.prog w K mg base CX0 4 fTR _ ["question", "tables"] (spTriadOf K) := ok_triadOf FTR B (PySem.W.mg_of X G zCo) FRA bRA gRA GRA FIO bIO gIO GIO FIT bIT gIT GIT FTU bTU gTU GTU FCH bCH gCH GCH
  have GNL : FnOk l.prog w K mg base CX0 5 fNL _ ["question", "tables"] (spNeedL K) := ok_needL FNL FLO bLO gLO GLO
  have GNX : FnOk l.prog w K mg base (L2.CX l.prog w) 5 fNL _ ["question", "tables"] (spNeedX K C) := ok_needX FNL NN bIP (ok_iP FIP) FLO bLO gLO GLO FTR bTR gTR GTR
  have GNP : FnOk l.prog w K mg base CX0 6 fNP _ ["question", "tables"] (spNeedP K) := ok_needP FNP B NN FNL bNL gNL GNX
  have GSL : FnOk l.prog w K mg base CX0 4 fSL _ ["question", "tables", "thing"] (spShowsL K) := ok_showsL FSL B (N z_all) FRA bRA gRA GRA FIL bIL gIL GIL
  have GTA : FnOk l.prog w K mg base CX0 1 fTA _ ["names", "thing"] (spTableOf K) := ok_tableOf FTA B
  have GIC : FnOk l.prog w K mg base CX0 2 fIC _ ["names", "thing", "turn"] (spIsChainP K) := ok_isChainP FIC B (N z_all) (N z_zip) FTA bTA gTA GTA FTP bTP gTP GTP
  have GST : FnOk l.prog w K mg base CX0 3 fST _ ["question", "tables", "thing"] (spShowsT K) := ok_showsT FST B (N z_all) (N z_zip) FNB bNB gNB GNB FTU bTU gTU GTU FIC bIC gIC GIC
  have GDP : FnOk l.prog w K mg base CX0 2 fDP _ ["own", "one", "middle", "other"] (spDoesPart K) := ok_doesPart FDP FRE bRE gRE GREW
  have GIE : FnOk l.prog w K mg base CX0 3 fIE _ ["own", "line", "last"] (spIsEnd K) := ok_isEnd FIE B FDP bDP gDP GDP
  have GGR : FnOk l.prog w K mg base CX0 11 fGR _ ["own", "line", "rest"] (spGrown K 7) := ok_grown FGR B bGR gGR FIE bIE gIE GIE 7
  have GFL : FnOk l.prog w K mg base CX0 12 fFL _ ["question", "tables"] (spFirstLine K) := ok_firstLine FFL B FOW bOW gOW GOW FGR bGR gGR GGR
  have GFT : FnOk l.prog w K mg base CX0 3 fFT _ ["own", "tables"] (spFirstTriad K) := ok_firstTriad FFT B FDP bDP gDP GDP
  have GLC : FnOk l.prog w K mg base CX0 1 fLC _ ["own", "chain", "one", "other", "past"] (spIsChain K) := ok_isChain FLC B (N z_zip)
  have GRI : FnG l.prog w K mg base CX0 13 fRI _ ["question", "tables"] (spRight K) := ok_right FRI B (N z_zip) ⟨⟨_, _, gOW, FOW.kp, bOW, GOW⟩, ⟨_, _, gFL, FFL.kp, bFL, GFL⟩, ⟨_, _, gFT, FFT.kp, bFT, GFT⟩, ⟨_, _, gLO, FLO.kp, bLO, GLO⟩, ⟨_, _, gTR, FTR.kp, bTR, GTR⟩, ⟨_, _, gSA, FSA.kp, bSA, GSA⟩, ⟨_, _, gSL, FSL.kp, bSL, GSL⟩, ⟨_, _, gNL, FNL.kp, bNL, GNL⟩, ⟨_, _, gLC, FLC.kp, bLC, GLC⟩, ⟨_, _, gST, FST.kp, bST, GST.mono (by decide)⟩, ⟨_, _, gNP, FNP.kp, bNP, GNP⟩⟩
  exact ok_law FLW B ⟨⟨_, _, gRI, FRI.kp, bRI, GRI⟩, ⟨_, _, gRG, FRG.kp, bRG, GRG⟩, ⟨_, _, gPB, FPB.kp, bPB, GPB⟩, ⟨_, _, gBE, FBE.kp, bBE, GBE⟩, ⟨_, _, gPT, FPT.kp, bPT, GPT⟩, ⟨_, _, gSQ, FSQ.kp, bSQ, GSQ⟩, ⟨_, _, gSP, FSP.kp, bSP, GSP⟩, ⟨_, _, gAP, FAP.kp, bAP, GAP⟩⟩
end Cut
open PySem PySem.W PyProof.Rows
set_option maxHeartbeats 0 in
theorem PySem.Challenge.cw_answercut_k14_whole_line_or_triad_holds : PySem.Challenge.rw_answercut_k14_whole_line_or_triad.Holds := by
  w_on; o_law; k_head; (case hw => w_witness2)
  k_fill
  refine Cut.walk_ofG (l := PySem.Challenge.rw_answercut_k14_whole_line_or_triad) (n := 63) (k := 14) (x := "script") (CX := fun _ => L2.CX0) (sp := fun w => Cut.spLaw _) rfl (by decide) rfl ⟨rfl, by decide, by decide⟩ (fun w h Y => PySem.W.kIn_of Y) ?F (fun _ _ a ns hl _ hS => ⟨a, ns, rfl, hS, fun _ => rfl⟩) (fun _ _ _ _ _ h => h)
  case F =>
    intro w mg fa h KX G hmg
    refine' Cut.all_mk KX G hmg ?aPN ?lPN ?cPN ?kPN ?aPI ?lPI ?cPI ?kPI ?aTO ?lTO ?cTO ?kTO ?aLT ?lLT ?cLT ?kLT ?aRG ?lRG ?cRG ?kRG ?aRB ?lRB ?cRB ?kRB ?aAT ?lAT ?cAT ?kAT ?aRD ?lRD ?cRD ?kRD ?aRU ?lRU ?cRU ?kRU ?aNB ?lNB ?cNB ?kNB ?aLO ?lLO ?cLO ?kLO ?aTR ?lTR ?cTR ?kTR ?aNL ?lNL ?cNL ?kNL ?aSL ?lSL ?cSL ?kSL ?aST ?lST ?cST ?kST ?aIO ?lIO ?cIO ?kIO ?aTU ?lTU ?cTU ?kTU ?aIL ?lIL ?cIL ?kIL ?aIT ?lIT ?cIT ?kIT ?aRA ?lRA ?cRA ?kRA ?aRP ?lRP ?cRP ?kRP ?aTP ?lTP ?cTP ?kTP ?aCH ?lCH ?cCH ?kCH ?aIC ?lIC ?cIC ?kIC ?aTA ?lTA ?cTA ?kTA ?aKN ?lKN ?cKN ?kKN ?aPT ?lPT ?cPT ?kPT ?aBE ?lBE ?cBE ?kBE ?aPK ?lPK ?cPK ?kPK ?aSA ?lSA ?cSA ?kSA ?aSH ?lSH ?cSH ?kSH ?aSQ ?lSQ ?cSQ ?kSQ ?aSP ?lSP ?cSP ?kSP ?aOW ?lOW ?cOW ?kOW ?aRE ?lRE ?cRE ?kRE ?aAP ?lAP ?cAP ?kAP ?aPB ?lPB ?cPB ?kPB ?aDP ?lDP ?cDP ?kDP ?aFL ?lFL ?cFL ?kFL ?aGR ?lGR ?cGR ?kGR ?aIE ?lIE ?cIE ?kIE ?aFT ?lFT ?cFT ?kFT ?aLC ?lLC ?cLC ?kLC ?aNP ?lNP ?cNP ?kNP ?aRI ?lRI ?cRI ?kRI ?aLW ?lLW ?cLW ?kLW ?z_int ?z_range ?z_len ?z_abs ?z_enumerate ?z_list ?z_tuple ?z_sorted ?z_set ?z_isinstance ?z_repr ?z_str ?z_any ?z_all ?z_zip ?zPe ?zCo ?nC ?nA ?aIP ?lIP ?cIP ?kIP ?tIP ?mP ?ox ?ex ?te ?ki
    (case aPN => k_is)
    (case lPN => k_is)
    (case cPN => k_is)
    (case kPN => k_is)
    (case aPI => k_is)
    (case lPI => k_is)
    (case cPI => k_is)
    (case kPI => k_is)
    (case aTO => k_is)
    (case lTO => k_is)
    (case cTO => k_is)
    (case kTO => k_is)
    (case aLT => k_is)
    (case lLT => k_is)
    (case cLT => k_is)
    (case kLT => k_is)
    (case aRG => k_is)
    (case lRG => k_is)
    (case cRG => k_is)
    (case kRG => k_is)
    (case aRB => k_is)
    (case lRB => k_is)
    (case cRB => k_is)
    (case kRB => k_is)
    (case aAT => k_is)
    (case lAT => k_is)
    (case cAT => k_is)
    (case kAT => k_is)
    (case aRD => k_is)
    (case lRD => k_is)
    (case cRD => k_is)
    (case kRD => k_is)
    (case aRU => k_is)
    (case lRU => k_is)
    (case cRU => k_is)
    (case kRU => k_is)
    (case aNB => k_is)
    (case lNB => k_is)
    (case cNB => k_is)
    (case kNB => k_is)
    (case aLO => k_is)
    (case lLO => k_is)
    (case cLO => k_is)
    (case kLO => k_is)
    (case aTR => k_is)
    (case lTR => k_is)
    (case cTR => k_is)
    (case kTR => k_is)
    (case aNL => k_is)
    (case lNL => k_is)
    (case cNL => k_is)
    (case kNL => k_is)
    (case aSL => k_is)
    (case lSL => k_is)
    (case cSL => k_is)
    (case kSL => k_is)
    (case aST => k_is)
    (case lST => k_is)
    (case cST => k_is)
    (case kST => k_is)
    (case aIO => k_is)
    (case lIO => k_is)
    (case cIO => k_is)
    (case kIO => k_is)
    (case aTU => k_is)
    (case lTU => k_is)
    (case cTU => k_is)
    (case kTU => k_is)
    (case aIL => k_is)
    (case lIL => k_is)
    (case cIL => k_is)
    (case kIL => k_is)
    (case aIT => k_is)
    (case lIT => k_is)
    (case cIT => k_is)
    (case kIT => k_is)
    (case aRA => k_is)
    (case lRA => k_is)
    (case cRA => k_is)
    (case kRA => k_is)
    (case aRP => k_is)
    (case lRP => k_is)
    (case cRP => k_is)
    (case kRP => k_is)
    (case aTP => k_is)
    (case lTP => k_is)
    (case cTP => k_is)
    (case kTP => k_is)
    (case aCH => k_is)
    (case lCH => k_is)
    (case cCH => k_is)
    (case kCH => k_is)
    (case aIC => k_is)
    (case lIC => k_is)
    (case cIC => k_is)
    (case kIC => k_is)
    (case aTA => k_is)
    (case lTA => k_is)
    (case cTA => k_is)
    (case kTA => k_is)
    (case aKN => k_is)
    (case lKN => k_is)
    (case cKN => k_is)
    (case kKN => k_is)
    (case aPT => k_is)
    (case lPT => k_is)
    (case cPT => k_is)
    (case kPT => k_is)
    (case aBE => k_is)
    (case lBE => k_is)
    (case cBE => k_is)
    (case kBE => k_is)
    (case aPK => k_is)
    (case lPK => k_is)
    (case cPK => k_is)
    (case kPK => k_is)
    (case aSA => k_is)
    (case lSA => k_is)
    (case cSA => k_is)
    (case kSA => k_is)
    (case aSH => k_is)
    (case lSH => k_is)
    (case cSH => k_is)
    (case kSH => k_is)
    (case aSQ => k_is)
    (case lSQ => k_is)
    (case cSQ => k_is)
    (case kSQ => k_is)
    (case aSP => k_is)
    (case lSP => k_is)
    (case cSP => k_is)
    (case kSP => k_is)
    (case aOW => k_is)
    (case lOW => k_is)
    (case cOW => k_is)
    (case kOW => k_is)
    (case aRE => k_is)
    (case lRE => k_is)
    (case cRE => k_is)
    (case kRE => k_is)
    (case aAP => k_is)
    (case lAP => k_is)
    (case cAP => k_is)
    (case kAP => k_is)
    (case aPB => k_is)
    (case lPB => k_is)
    (case cPB => k_is)
    (case kPB => k_is)
    (case aDP => k_is)
    (case lDP => k_is)
    (case cDP => k_is)
    (case kDP => k_is)
    (case aFL => k_is)
    (case lFL => k_is)
    (case cFL => k_is)
    (case kFL => k_is)
    (case aGR => k_is)
    (case lGR => k_is)
    (case cGR => k_is)
    (case kGR => k_is)
    (case aIE => k_is)
    (case lIE => k_is)
    (case cIE => k_is)
    (case kIE => k_is)
    (case aFT => k_is)
    (case lFT => k_is)
    (case cFT => k_is)
    (case kFT => k_is)
    (case aLC => k_is)
    (case lLC => k_is)
    (case cLC => k_is)
    (case kLC => k_is)
    (case aNP => k_is)
    (case lNP => k_is)
    (case cNP => k_is)
    (case kNP => k_is)
    (case aRI => k_is)
    (case lRI => k_is)
    (case cRI => k_is)
    (case kRI => k_is)
    (case aLW => k_is)
    (case lLW => k_is)
    (case cLW => k_is)
    (case kLW => k_is)
    (case z_int => k_is)
    (case z_range => k_is)
    (case z_len => k_is)
    (case z_abs => k_is)
    (case z_enumerate => k_is)
    (case z_list => k_is)
    (case z_tuple => k_is)
    (case z_sorted => k_is)
    (case z_set => k_is)
    (case z_isinstance => k_is)
    (case z_repr => k_is)
    (case z_str => k_is)
    (case z_any => k_is)
    (case z_all => k_is)
    (case z_zip => k_is)
    (case zPe => k_is)
    (case zCo => k_is)
    (case nC => k_is)
    (case nA => k_is)
    (case aIP => k_is)
    (case lIP => k_is)
    (case cIP => k_is)
    (case kIP => k_is)
    (case tIP => k_is)
    (case mP => k_is)
    (case ox => kernel_rfl)
    (case ex => kernel_rfl)
    (case te => kernel_rfl)
    (case ki => kernel_rfl)
